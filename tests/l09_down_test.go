package tests

import (
	"math"
	"slices"
	"testing"

	"loop.example/g00489/impl"
)

// The wanted answers are the chapter's words, written out once more over
// holdsWanted, firstWanted and nextWanted, which are those of the chapters
// ahead.

// cheapestWanted is the type that holds the content and that no other one of
// those is cheaper than, or as cheap with a lesser Id.
func cheapestWanted(r impl.Request, content []int) (impl.Type, bool) {
	holding := []impl.Type{}
	for _, x := range r.Types {
		if holdsWanted(r, content, x) {
			holding = append(holding, x)
		}
	}
	for _, x := range holding {
		better := func(y impl.Type) bool { return y.Cost < x.Cost || y.Cost == x.Cost && y.Id < x.Id }
		if !slices.ContainsFunc(holding, better) {
			return x, true
		}
	}
	return impl.Type{}, false
}

func cartonsWanted(r impl.Request) []impl.Carton {
	cartons := []impl.Carton{}
	for k := range groupsWanted(r) {
		pack := firstWanted
		if r.Way == 1 {
			pack = nextWanted
		}
		for _, content := range pack(r, unitsOfWanted(r, k)) {
			x, _ := cheapestWanted(r, content)
			cartons = append(cartons, impl.Carton{Type: x.Id, Group: k, Units: slices.Sorted(slices.Values(content))})
		}
	}
	return cartons
}

func typeWanted(r impl.Request, id int) (impl.Type, bool) {
	place := slices.IndexFunc(r.Types, func(x impl.Type) bool { return x.Id == id })
	if place < 0 {
		return impl.Type{}, false
	}
	return r.Types[place], true
}

func grossWanted(r impl.Request, x impl.Carton) int {
	box, there := typeWanted(r, x.Type)
	if classWanted(r) != 0 || !there {
		return 0
	}
	_, gram := sumsWanted(r, x.Units)
	return gram + box.Tare
}

func costWanted(r impl.Request, list []impl.Carton) int {
	cost := 0
	for _, x := range list {
		if box, there := typeWanted(r, x.Type); there && classWanted(r) == 0 {
			cost += box.Cost
		}
	}
	return cost
}

func sameCartons(a []impl.Carton, b []impl.Carton) bool {
	return slices.EqualFunc(a, b, func(x impl.Carton, y impl.Carton) bool {
		return x.Type == y.Type && x.Group == y.Group && slices.Equal(x.Units, y.Units)
	})
}

func checkCheapest(t *testing.T, r impl.Request, content []int) {
	t.Helper()
	got, ok := impl.Cheapest(r, content)
	if want, there := cheapestWanted(r, content); got != want || ok != there {
		t.Errorf("Cheapest(%v, %v) = %v, %v, want %v, %v", r, content, got, ok, want, there)
	}
}

func checkGross(t *testing.T, r impl.Request, x impl.Carton) {
	t.Helper()
	if got, want := impl.Gross(r, x), grossWanted(r, x); got != want {
		t.Errorf("Gross(%v, %v) = %d, want %d", r, x, got, want)
	}
}

func checkCost(t *testing.T, r impl.Request, list []impl.Carton) {
	t.Helper()
	if got, want := impl.CostOf(r, list), costWanted(r, list); got != want {
		t.Errorf("CostOf(%v, %v) = %d, want %d", r, list, got, want)
	}
}

// checkPromise9 holds the cartons against the order alone: each is of a type
// that holds what is in it, no type that holds it is cheaper, and each unit is
// in one carton, which is one of its group.
func checkPromise9(t *testing.T, r impl.Request, cartons []impl.Carton) {
	t.Helper()
	together, group := []int{}, 0
	for i, x := range cartons {
		box, there := impl.TypeById(r, x.Type)
		if !there || len(x.Units) == 0 || !impl.Holds(r, x.Units, box) {
			t.Errorf("carton %d of %v, %v, doesn't hold what is in it", i, r, x)
		}
		for _, y := range r.Types {
			if impl.Holds(r, x.Units, y) && (y.Cost < box.Cost || y.Cost == box.Cost && y.Id < box.Id) {
				t.Errorf("carton %d of %v, %v, isn't the cheapest: %v", i, r, x, y)
			}
		}
		if x.Group < group || !slices.IsSorted(x.Units) {
			t.Errorf("carton %d of %v, %v, isn't in order", i, r, x)
		}
		group = x.Group
		for _, u := range x.Units {
			if !slices.Contains(impl.UnitsOf(r, x.Group), u) {
				t.Errorf("carton %d of %v, %v, has a unit of another group", i, r, x)
			}
		}
		together = append(together, x.Units...)
	}
	slices.Sort(together)
	if !slices.Equal(together, placesTo(len(unitsWanted(r)))) {
		t.Errorf("the cartons of %v have the units %v", r, together)
	}
}

// checkDown asks for the cartons of one order, and what they weigh and cost,
// alone and together.
func checkDown(t *testing.T, r impl.Request) {
	t.Helper()
	got := impl.CartonsOf(r)
	if want := cartonsWanted(r); !sameCartons(got, want) {
		t.Errorf("CartonsOf(%v) = %v, want %v", r, got, want)
	}
	checkPromise9(t, r, got)
	checkCost(t, r, got)
	for i, x := range got {
		checkGross(t, r, x)
		checkCost(t, r, got[:i])
		checkCheapest(t, r, x.Units)
	}
}

// pricedRequest is rowRequest with a cost for each type: Id 4 (which holds
// volume 6 and weight 7), Id 7 (10 and 10) and Id 2 (4 and 4, and no unit of a
// volume of more than 2).
func pricedRequest(costs [3]int, sizes ...[2]int) impl.Request {
	r := rowRequest(sizes...)
	for i, cost := range costs {
		r.Types[i].Cost = cost
	}
	return r
}

func TestCheapestByHand(t *testing.T) {
	sizes := [][2]int{{1, 1}, {2, 1}, {3, 1}, {6, 7}, {7, 1}, {1, 5}, {1, 8}, {10, 10}}
	cases := []struct {
		name    string
		costs   [3]int
		content []int
		want    int
	}{
		{"held by all, the last is cheapest", [3]int{5, 9, 3}, []int{0, 1}, 2},
		{"held by all, the first is cheapest", [3]int{2, 9, 3}, []int{0, 1}, 4},
		{"held by all, the master is cheapest", [3]int{5, 1, 3}, []int{0, 1}, 7},
		{"one that costs nothing", [3]int{5, 0, 3}, []int{0}, 7},
		{"less by one, the first", [3]int{99999, 100000, 100000}, []int{0}, 4},
		{"less by one, between", [3]int{100000, 99999, 100000}, []int{0}, 7},
		{"less by one, the last", [3]int{100000, 100000, 99999}, []int{0}, 2},
		{"more by one, the least Id", [3]int{7, 7, 8}, []int{0}, 4},
		{"equal costs", [3]int{5, 5, 5}, []int{0}, 2},
		{"nothing costs anything", [3]int{0, 0, 0}, []int{0}, 2},
		{"equal costs of two that hold", [3]int{5, 5, 5}, []int{2}, 4},
		{"equal costs of the dear ones", [3]int{5, 5, 4}, []int{0}, 2},
		{"held by two", [3]int{5, 9, 3}, []int{2}, 4},
		{"held by two, the cheapest of all doesn't", [3]int{5, 4, 3}, []int{2}, 7},
		{"held by one", [3]int{5, 9, 3}, []int{4}, 7},
		{"too heavy for two", [3]int{5, 9, 3}, []int{6}, 7},
		{"too heavy for one", [3]int{5, 9, 3}, []int{5}, 4},
		{"volume and weight of a type met", [3]int{5, 9, 3}, []int{3}, 4},
		{"volume met by two and one", [3]int{5, 9, 3}, []int{2, 1, 0}, 4},
		{"volume passed by one", [3]int{5, 9, 3}, []int{2, 1, 0, 0}, 7},
		{"volume of the least met", [3]int{5, 9, 3}, []int{1, 1}, 2},
		{"volume of the least passed by one", [3]int{5, 9, 3}, []int{1, 1, 0}, 4},
		{"weight met", [3]int{5, 9, 3}, []int{5, 0, 1}, 4},
		{"weight passed by one", [3]int{5, 9, 3}, []int{5, 0, 0, 0}, 7},
		{"weight of the least met", [3]int{5, 9, 3}, []int{0, 0, 0, 0}, 2},
		{"weight of the least passed by one", [3]int{5, 9, 3}, []int{0, 0, 0, 0, 0}, 4},
		{"the master met", [3]int{5, 9, 3}, []int{7}, 7},
		{"the master passed", [3]int{5, 9, 3}, []int{7, 0}, 0},
		{"the master passed by volume", [3]int{5, 9, 3}, []int{4, 2, 0}, 0},
		{"the master passed by weight", [3]int{5, 9, 3}, []int{5, 5, 0}, 0},
		{"twice", [3]int{5, 9, 3}, []int{2, 2}, 4},
		{"thrice", [3]int{5, 9, 3}, []int{2, 2, 2}, 7},
		{"twice, too much", [3]int{5, 9, 3}, []int{3, 3}, 0},
		{"no units", [3]int{5, 9, 3}, nil, 2},
		{"no units, the master is cheapest", [3]int{5, 2, 3}, []int{}, 7},
		{"no units, equal costs", [3]int{5, 5, 5}, nil, 2},
		{"a place below 0", [3]int{5, 9, 3}, []int{-1}, 0},
		{"a place behind the end", [3]int{5, 9, 3}, []int{8}, 0},
		{"the last place", [3]int{9, 9, 3}, []int{7}, 7},
		{"a place below 0 behind others", [3]int{5, 9, 3}, []int{0, 1, -1}, 0},
		{"a place behind the end ahead of others", [3]int{5, 9, 3}, []int{8, 0}, 0},
	}
	for _, c := range cases {
		r := pricedRequest(c.costs, sizes...)
		got, ok := impl.Cheapest(r, c.content)
		want := impl.Type{}
		if c.want > 0 {
			want = r.Types[slices.Index([]int{4, 7, 2}, c.want)]
		}
		if got != want || ok != (c.want > 0) {
			t.Errorf("%s: Cheapest = %v, %v, want %v", c.name, got, ok, want)
		}
		checkCheapest(t, r, c.content)
	}
}

// turnedTypes are the types in each order there is of them.
func turnedTypes(types []impl.Type) [][]impl.Type {
	if len(types) == 0 {
		return [][]impl.Type{nil}
	}
	orders := [][]impl.Type{}
	for _, rest := range turnedTypes(types[1:]) {
		for i := range len(types) {
			orders = append(orders, slices.Insert(slices.Clone(rest), i, types[0]))
		}
	}
	return orders
}

// TestCheapestWhereverItStands has the types in each order, with each choice of
// three costs: which is told doesn't hang on where it stands.
func TestCheapestWhereverItStands(t *testing.T) {
	sizes := [][2]int{{1, 1}, {2, 1}, {3, 1}, {6, 7}, {7, 1}}
	contents := [][]int{nil, {0}, {0, 1}, {2}, {3}, {4}, {2, 1, 0}, {2, 1, 0, 0}, {0, 0, 0, 0, 0}, {4, 3}, {5}}
	for n := range 3 * 3 * 3 {
		first := pricedRequest([3]int{n % 3, n / 3 % 3, n / 9}, sizes...)
		for _, types := range turnedTypes(first.Types) {
			r := pricedRequest([3]int{}, sizes...)
			r.Types = types
			for _, content := range contents {
				checkCheapest(t, r, content)
				a, ok := impl.Cheapest(first, content)
				b, there := impl.Cheapest(r, content)
				if a != b || ok != there {
					t.Errorf("Cheapest of %v: %v of %v, %v of %v", content, a, first.Types, b, types)
				}
			}
			checkDown(t, r)
		}
	}
	r := pricedRequest([3]int{}, sizes...)
	box := r.Types[1]
	r.Types = nil
	for _, id := range []int{500, 0, 999, 7, 1} {
		box.Id = id
		r.Types = append(r.Types, box)
	}
	for _, types := range turnedTypes(r.Types) {
		r.Types = types
		if got, ok := impl.Cheapest(r, []int{3}); !ok || got.Id != 0 || got.Gram != 10 {
			t.Errorf("of five alike %v the cheapest is %v", types, got)
		}
		dear := slices.Clone(types)
		for i := range dear {
			if dear[i].Id == 0 {
				dear[i].Cost = 1
			}
		}
		r.Types = dear
		if got, ok := impl.Cheapest(r, []int{3}); !ok || got.Id != 1 {
			t.Errorf("of four alike and a dear one %v the cheapest is %v", dear, got)
		}
	}
}

// TestSomeTypeHolds is what follows: whatever the master carton holds, some
// type holds, and it is no dearer.
func TestSomeTypeHolds(t *testing.T) {
	held, cheaper, none := 0, 0, 0
	for n := range 6 * 6 * 6 * 6 {
		r := pricedRequest([3]int{n % 4, n / 3 % 4, n / 5 % 4}, [2]int{1, 3}, [2]int{2, 1}, [2]int{4, 2}, [2]int{3, 7})
		content := []int{}
		for _, u := range []int{n % 6, n / 6 % 6, n / 36 % 6, n / 216} {
			if u < 5 {
				content = append(content, u)
			}
		}
		master, _ := impl.MasterOf(r)
		got, ok := impl.Cheapest(r, content)
		switch {
		case impl.Holds(r, content, master) && (!ok || got.Cost > master.Cost):
			t.Errorf("the master carton holds %v of %v, but the cheapest is %v, %v", content, r, got, ok)
		case ok && got.Cost < master.Cost:
			cheaper++
		case ok:
			held++
		default:
			none++
		}
		checkCheapest(t, r, content)
	}
	if held == 0 || cheaper == 0 || none == 0 {
		t.Errorf("held are %d, by a cheaper one %d, by none %d", held, cheaper, none)
	}
}

// TestCheapestBeyondTheMaster has a master carton that is less than another
// type: what that one doesn't hold is held by the greater one.
func TestCheapestBeyondTheMaster(t *testing.T) {
	r := pricedRequest([3]int{5, 9, 3}, [2]int{1, 1}, [2]int{2, 2})
	r.Master = 2
	for _, c := range []struct {
		content []int
		want    int
	}{{[]int{0, 1}, 2}, {[]int{1, 1}, 2}, {[]int{1, 1, 0}, 4}, {[]int{1, 1, 1, 0}, 7}, {[]int{1, 1, 1, 1, 1}, 7}} {
		if got, ok := impl.Cheapest(r, c.content); !ok || got.Id != c.want {
			t.Errorf("Cheapest of %v = %v, %v, want Id %d", c.content, got, ok, c.want)
		}
		checkCheapest(t, r, c.content)
	}
	r.Types[0].Cost = 3
	if got := impl.CartonsOf(r); !sameCartons(got, []impl.Carton{{Type: 2, Units: []int{0, 1}}}) {
		t.Errorf("CartonsOf = %v", got)
	}
	r.Types[0].Cost = 2
	if got := impl.CartonsOf(r); !sameCartons(got, []impl.Carton{{Type: 4, Units: []int{0, 1}}}) {
		t.Errorf("CartonsOf with a greater one that is cheaper = %v", got)
	}
	checkDown(t, r)
}

func TestCartonsByHand(t *testing.T) {
	cases := []struct {
		name        string
		sizes       [][2]int
		first, next []impl.Carton
	}{
		{"unlike types", [][2]int{{6, 1}, {2, 1}, {5, 1}, {2, 1}, {1, 1}},
			[]impl.Carton{{Type: 7, Units: []int{0, 1, 3}}, {Type: 4, Units: []int{2, 4}}},
			[]impl.Carton{{Type: 7, Units: []int{0, 1}}, {Type: 7, Units: []int{2, 3, 4}}}},
		{"each of another type", [][2]int{{10, 1}, {6, 7}, {2, 4}, {1, 10}},
			[]impl.Carton{{Type: 7, Units: []int{0}}, {Type: 4, Units: []int{1}}, {Type: 2, Units: []int{2}}, {Type: 7, Units: []int{3}}},
			[]impl.Carton{{Type: 7, Units: []int{0}}, {Type: 4, Units: []int{1}}, {Type: 2, Units: []int{2}}, {Type: 7, Units: []int{3}}}},
		{"packed the other way round", [][2]int{{1, 1}, {2, 1}, {3, 1}, {4, 1}},
			[]impl.Carton{{Type: 7, Units: []int{0, 1, 2, 3}}},
			[]impl.Carton{{Type: 7, Units: []int{0, 1, 2, 3}}}},
		{"the greatest in the middle", [][2]int{{3, 1}, {6, 1}, {4, 1}, {7, 1}},
			[]impl.Carton{{Type: 7, Units: []int{0, 3}}, {Type: 7, Units: []int{1, 2}}},
			[]impl.Carton{{Type: 7, Units: []int{0, 1}}, {Type: 4, Units: []int{2}}, {Type: 7, Units: []int{3}}}},
		{"one unit", [][2]int{{1, 1}}, []impl.Carton{{Type: 2, Units: []int{0}}}, []impl.Carton{{Type: 2, Units: []int{0}}}},
		{"no unit", nil, nil, nil},
	}
	for _, c := range cases {
		r := pricedRequest([3]int{5, 9, 3}, c.sizes...)
		r.Way = impl.WyFirst
		if got := impl.CartonsOf(r); !sameCartons(got, c.first) {
			t.Errorf("%s, first fit: %v, want %v", c.name, got, c.first)
		}
		checkDown(t, r)
		r.Way = impl.WyNext
		if got := impl.CartonsOf(r); !sameCartons(got, c.next) {
			t.Errorf("%s, next fit: %v, want %v", c.name, got, c.next)
		}
		checkDown(t, r)
	}
}

func TestCartonsOfGroups(t *testing.T) {
	cases := []struct {
		way   int
		want  []impl.Carton
		gross []int
	}{
		{impl.WyFirst, []impl.Carton{{Type: 7, Units: []int{0, 2}}, {Type: 7, Units: []int{1}}, {Type: 4, Group: 1, Units: []int{3, 4, 5}}}, []int{520, 500, 33}},
		{impl.WyNext, []impl.Carton{{Type: 7, Units: []int{0}}, {Type: 7, Units: []int{1, 2}}, {Type: 4, Group: 1, Units: []int{3, 4, 5}}}, []int{500, 520, 33}},
	}
	for _, c := range cases {
		r := soundRequest()
		r.Way = c.way
		if got := impl.CartonsOf(r); !sameCartons(got, c.want) {
			t.Errorf("way %d: CartonsOf = %v, want %v", c.way, got, c.want)
		}
		for i, x := range c.want {
			if got := impl.Gross(r, x); got != c.gross[i] {
				t.Errorf("Gross of %v = %d, want %d", x, got, c.gross[i])
			}
		}
		if got := impl.CostOf(r, c.want); got != 20 {
			t.Errorf("way %d: CostOf = %d", c.way, got)
		}
		checkDown(t, r)
	}
	if a, b := impl.CartonsOf(greatestRequest()), impl.CartonsOf(leastRequest()); len(a) != 12 || a[11].Type != 995 || !sameCartons(b, []impl.Carton{{Units: []int{0}}}) {
		t.Errorf("the cartons of the greatest order are %v, of the least %v", a, b)
	}
	if got := impl.CostOf(greatestRequest(), impl.CartonsOf(greatestRequest())); got != 1200000 {
		t.Errorf("the greatest order costs %d", got)
	}
	checkDown(t, greatestRequest())
	checkDown(t, leastRequest())
}

// TestEachCartonIsTheCheapest is promise 9: over each table of four kinds, and
// over many orders of up to twelve units and five types.
func TestEachCartonIsTheCheapest(t *testing.T) {
	for bits := range 64 {
		for _, way := range bothWays() {
			r := mixedRequest()
			r.Way, r.Pairs = way, soundTable(bits)
			r.Types[1].Gram = 60 + bits%20
			r.Types[0].Cost, r.Types[1].Cost, r.Types[2].Cost = bits%3, bits/3%3, bits/9%3
			checkDown(t, r)
		}
	}
	seed := 9
	next := func(n int) int {
		seed = (seed*1103515245 + 12345) & (1<<31 - 1)
		return seed >> 12 % n
	}
	kinds, types := map[int]int{}, map[int]int{}
	for n := range 1500 {
		r := rowRequest()
		r.Classes, r.Pairs, r.Way = 4, soundTable(next(64)), next(2)
		for _, id := range []int{next(2), 900 + next(3)}[:n%3] {
			r.Types = slices.Insert(r.Types, next(4), impl.Type{Id: id, W: 1 + next(10), H: 1 + next(2), D: 1 + next(2), Tare: next(9), Gram: 1 + next(12)})
		}
		for i := range r.Types {
			r.Types[i].Cost = next(4)
		}
		for i := range 1 + next(8) {
			r.Items = append(r.Items, impl.Item{Id: i, W: 1 + next(7), H: 1, D: 1, Gram: 1 + next(6), Class: next(1 + n%4), Count: 1 + next(2)*(1-i/4)})
		}
		if impl.Class(r) != impl.ClNone {
			t.Fatalf("%v is wrong", r)
		}
		checkDown(t, r)
		for _, x := range impl.CartonsOf(r) {
			kinds[x.Group]++
			types[x.Type]++
		}
		content := []int{}
		for range next(7) {
			content = append(content, next(14)-1)
		}
		checkCheapest(t, r, content)
		checkGross(t, r, impl.Carton{Type: next(9), Group: next(9) - 4, Units: content})
	}
	if len(kinds) != 4 || len(types) != 8 {
		t.Errorf("the groups are %v, the types %v", kinds, types)
	}
}

func TestTypeById(t *testing.T) {
	box := func(id int, cost int) impl.Type {
		return impl.Type{Id: id, W: 1, H: 2, D: 3, Tare: 4, Gram: 5, Cost: cost}
	}
	boxes := []impl.Type{box(4, 9), box(7, 1), box(2, 2), box(7, 0), box(4, 4), box(-1, 5), box(math.MinInt64, 6), box(math.MaxInt64, 7)}
	cases := []struct {
		types []impl.Type
		id    int
		want  impl.Type
		ok    bool
	}{
		{boxes, 4, box(4, 9), true}, {boxes, 7, box(7, 1), true}, {boxes, 2, box(2, 2), true},
		{boxes[1:], 4, box(4, 4), true}, {boxes[2:], 7, box(7, 0), true}, {boxes[:1], 4, box(4, 9), true},
		{boxes, -1, box(-1, 5), true}, {boxes, math.MinInt64, box(math.MinInt64, 6), true}, {boxes, math.MaxInt64, box(math.MaxInt64, 7), true},
		{boxes, 0, impl.Type{}, false}, {boxes, 1, impl.Type{}, false}, {boxes, 3, impl.Type{}, false}, {boxes, 5, impl.Type{}, false},
		{boxes[:1], 7, impl.Type{}, false}, {boxes[:5], -1, impl.Type{}, false}, {boxes, -7, impl.Type{}, false}, {boxes, 1<<32 + 7, impl.Type{}, false},
		{boxes[:6], math.MinInt64, impl.Type{}, false}, {boxes[:6], math.MaxInt64, impl.Type{}, false},
		{nil, 0, impl.Type{}, false}, {[]impl.Type{}, 7, impl.Type{}, false}, {nil, math.MinInt64, impl.Type{}, false},
		{[]impl.Type{{}}, 0, impl.Type{}, true}, {[]impl.Type{box(1, 1), box(0, 2), box(0, 3)}, 0, box(0, 2), true},
		{slices.Repeat([]impl.Type{box(1, 1)}, 1000), 2, impl.Type{}, false},
	}
	for _, c := range cases {
		for _, master := range []int{0, 4, 7, c.id} {
			got, ok := impl.TypeById(impl.Request{Types: c.types, Master: master}, c.id)
			if got != c.want || ok != c.ok {
				t.Errorf("TypeById %d of %d types = %v, %v, want %v, %v", c.id, len(c.types), got, ok, c.want, c.ok)
			}
		}
	}
	for _, x := range soundRequest().Types {
		if got, ok := impl.TypeById(soundRequest(), x.Id); !ok || got != x {
			t.Errorf("TypeById %d = %v, %v", x.Id, got, ok)
		}
	}
}

// TestTypeByIdLooksAtNoMore asks for a type of orders that are wrong, each
// reason in several forms, with any number in each field of the type.
func TestTypeByIdLooksAtNoMore(t *testing.T) {
	for _, x := range wrongTurns() {
		for _, part := range typeParts() {
			for _, n := range wildNumbers() {
				r := soundRequest()
				x.turn(&r)
				wrong := slices.Clone(r.Types)
				box := rightType()
				box.Id = 555
				part.set(&box, n)
				r.Types = append(wrong, box, rightType())
				if got, ok := impl.TypeById(r, box.Id); !ok || box.Id == 555 && got != box {
					t.Errorf("%s, %s %d: TypeById = %v, %v", x.name, part.name, n, got, ok)
				}
				if got, ok := impl.TypeById(r, -8); ok || got != (impl.Type{}) {
					t.Errorf("%s: TypeById of one that is not there = %v, %v", x.name, got, ok)
				}
			}
		}
	}
}

func TestGrossByHand(t *testing.T) {
	cases := []struct {
		name string
		box  impl.Carton
		want int
	}{
		{"one unit", impl.Carton{Type: 7, Units: []int{0}}, 500},
		{"several", impl.Carton{Type: 7, Units: []int{1, 2, 5}}, 530},
		{"of another type", impl.Carton{Type: 4, Units: []int{2, 5}}, 33},
		{"more than it holds", impl.Carton{Type: 2, Units: []int{0, 1, 2}}, 824},
		{"another group", impl.Carton{Type: 2, Group: 1, Units: []int{2}}, 24},
		{"a group that is none", impl.Carton{Type: 2, Group: math.MinInt64, Units: []int{2}}, 24},
		{"units of two groups", impl.Carton{Type: 2, Group: 77, Units: []int{2, 3}}, 34},
		{"without units", impl.Carton{Type: 7}, 100},
		{"an empty list of units", impl.Carton{Type: 4, Units: []int{}}, 3},
		{"a unit twice", impl.Carton{Type: 4, Units: []int{2, 2}}, 43},
		{"not in order", impl.Carton{Type: 4, Units: []int{5, 2, 3}}, 43},
		{"places outside", impl.Carton{Type: 4, Units: []int{-1, 6, 2, math.MaxInt64, math.MinInt64}}, 23},
		{"places outside alone", impl.Carton{Type: 4, Units: []int{-1, 6}}, 3},
		{"a type that is not there", impl.Carton{Type: 3, Units: []int{0}}, 0},
		{"a type of an item's Id", impl.Carton{Type: 1, Units: []int{0}}, 0},
		{"a place for an Id", impl.Carton{Type: 1, Units: []int{2}}, 0},
		{"type 0", impl.Carton{Units: []int{0}}, 0},
		{"zero", impl.Carton{}, 0},
		{"a type below 0", impl.Carton{Type: -7, Units: []int{0}}, 0},
		{"a type far outside", impl.Carton{Type: math.MaxInt64, Units: []int{0}}, 0},
		{"the other end", impl.Carton{Type: math.MinInt64, Units: []int{0}}, 0},
	}
	for _, way := range bothWays() {
		for _, c := range cases {
			r := soundRequest()
			r.Way = way
			if got := impl.Gross(r, c.box); got != c.want {
				t.Errorf("%s: Gross = %d, want %d", c.name, got, c.want)
			}
			checkGross(t, r, c.box)
		}
	}
	r := soundRequest()
	r.Types[2].Id, r.Types[2].Tare = 0, 0
	if a, b := impl.Gross(r, impl.Carton{}), impl.Gross(r, impl.Carton{Units: []int{2}}); a != 0 || b != 20 {
		t.Errorf("of a type whose Id and Tare are 0: %d, %d", a, b)
	}
	checkGross(t, greatestRequest(), impl.Carton{Type: 999, Units: placesTo(12)})
	checkGross(t, leastRequest(), impl.Carton{Units: placesTo(12)})
}

func TestCostByHand(t *testing.T) {
	carton := func(types ...int) []impl.Carton {
		list := []impl.Carton{}
		for i, id := range types {
			list = append(list, impl.Carton{Type: id, Group: i - 2, Units: placesTo(i * 7)})
		}
		return list
	}
	cases := []struct {
		name string
		list []impl.Carton
		want int
	}{
		{"nil", nil, 0},
		{"empty", []impl.Carton{}, 0},
		{"empty with room behind", carton(7, 4)[:0], 0},
		{"one", carton(7), 9},
		{"each", carton(7, 4, 2), 14},
		{"one twice", carton(4, 7, 4), 13},
		{"some that are not there", carton(0, 4, 3, 7, -4, math.MaxInt64, math.MinInt64), 11},
		{"none that is there", carton(0, 3, -7, 1<<32+7), 0},
		{"a zero one", []impl.Carton{{}, {Type: 2}}, 3},
		{"places far outside", []impl.Carton{{Type: 2, Units: []int{math.MaxInt64}}, {Type: 7, Units: []int{-1}}}, 12},
	}
	for _, way := range bothWays() {
		for _, c := range cases {
			r := soundRequest()
			r.Way = way
			if got := impl.CostOf(r, c.list); got != c.want {
				t.Errorf("%s: CostOf = %d, want %d", c.name, got, c.want)
			}
			checkCost(t, r, c.list)
		}
	}
	r := soundRequest()
	r.Types[0].Cost, r.Types[2].Id = 0, 0
	if a, b := impl.CostOf(r, carton(4)), impl.CostOf(r, []impl.Carton{{}}); a != 0 || b != 3 {
		t.Errorf("of one that costs nothing, and of Id 0: %d, %d", a, b)
	}
}

func checkNoCartons(t *testing.T, what string, r impl.Request) {
	t.Helper()
	if got := impl.CartonsOf(r); len(got) != 0 {
		t.Errorf("%s: CartonsOf = %v", what, got)
	}
	for _, content := range [][]int{nil, {}, {0}, {5, 0}, placesTo(12), {-1, 0, 1, math.MaxInt64}} {
		if got, ok := impl.Cheapest(r, content); ok || got != (impl.Type{}) {
			t.Errorf("%s: Cheapest of %v = %v, %v", what, content, got, ok)
		}
		list := []impl.Carton{}
		for _, id := range []int{7, 4, 2, 0, 999, -1, math.MaxInt64, math.MinInt64} {
			x := impl.Carton{Type: id, Units: content}
			if got := impl.Gross(r, x); got != 0 {
				t.Errorf("%s: Gross of %v = %d", what, x, got)
			}
			list = append(list, x)
			if got := impl.CostOf(r, list); got != 0 {
				t.Errorf("%s: CostOf %v = %d", what, list, got)
			}
		}
	}
}

// TestDownWrongOrders has each reason in several forms, and a Way that is none
// of both.
func TestDownWrongOrders(t *testing.T) {
	seen := map[int]int{}
	for _, x := range wrongTurns() {
		r := soundRequest()
		x.turn(&r)
		checkNoCartons(t, x.name, r)
		seen[x.want]++
	}
	if len(seen) != 5 {
		t.Errorf("the reasons are %v", seen)
	}
	for _, way := range append(wildNumbers()[2:], 2, 3) {
		r := soundRequest()
		r.Way = way
		checkNoCartons(t, "a way that is none", r)
	}
	r := soundRequest()
	r.Pairs, r.Types, r.Items = slices.Repeat(r.Pairs, 10000), slices.Repeat(r.Types, 10000), slices.Repeat(r.Items, 10000)
	checkNoCartons(t, "long lists", r)
	r = soundRequest()
	r.Items = nil
	if got := impl.CartonsOf(r); len(got) != 0 {
		t.Errorf("an order without items has the cartons %v", got)
	}
	checkDown(t, r)
}

// TestDownAnyNumbers puts any number into each field of an order, into a
// content and into a carton.
func TestDownAnyNumbers(t *testing.T) {
	first := soundRequest()
	numbers := append(wildNumbers(), 2, 3, 4, 5, 6, 7, 8, 9, 10, 30, 900, 999, 1000)
	for i := range soundNumbers(&first) {
		for _, n := range numbers {
			r := soundRequest()
			*soundNumbers(&r)[i] = n
			if classWanted(r) != 0 {
				checkNoCartons(t, "any numbers", r)
				continue
			}
			checkDown(t, r)
			checkCheapest(t, r, []int{2, 3})
			checkCheapest(t, r, []int{2, n})
			checkGross(t, r, impl.Carton{Type: n, Group: n, Units: []int{n, 2, 3}})
			checkCost(t, r, []impl.Carton{{Type: n}, {Type: 7}, {Type: n}})
		}
	}
	for _, n := range numbers {
		for _, m := range numbers {
			r := soundRequest()
			checkCheapest(t, r, []int{n, m})
			checkGross(t, r, impl.Carton{Type: 4, Group: m, Units: []int{n, m}})
			checkGross(t, r, impl.Carton{Type: n, Units: []int{m, 0}})
			checkCost(t, r, []impl.Carton{{Type: n, Group: m}, {Type: m}})
		}
	}
}

// TestDownLongLists has contents and lists of cartons far longer than those of
// an order.
func TestDownLongLists(t *testing.T) {
	r := soundRequest()
	long := slices.Repeat([]int{0, 5, -1, 6}, 100000)
	if got, ok := impl.Cheapest(r, long); ok || got != (impl.Type{}) {
		t.Errorf("Cheapest of a long content = %v, %v", got, ok)
	}
	if got, ok := impl.Cheapest(r, slices.Repeat([]int{5}, 100000)); ok || got != (impl.Type{}) {
		t.Errorf("Cheapest of one unit many times = %v, %v", got, ok)
	}
	if got := impl.Gross(r, impl.Carton{Type: 2, Units: long}); got != 41000004 {
		t.Errorf("Gross of a long content = %d", got)
	}
	if got := impl.CostOf(r, slices.Repeat([]impl.Carton{{Type: 2, Units: long}, {Type: 3}, {Type: 7}}, 100000)); got != 1200000 {
		t.Errorf("CostOf many cartons = %d", got)
	}
	great := slices.Repeat([]impl.Carton{{Type: 995}}, 20000)
	if got := impl.CostOf(greatestRequest(), great); got != 2000000000 {
		t.Errorf("CostOf many dear cartons = %d", got)
	}
}

// TestDownWritesNothing looks at the lists and at the spare room behind them.
func TestDownWritesNothing(t *testing.T) {
	r := soundRequest()
	r.Way = impl.WyFirst
	r.Pairs = append(make([]impl.Pair, 0, 9), r.Pairs...)
	r.Types = append(make([]impl.Type, 0, 9), r.Types...)
	r.Items = append(make([]impl.Item, 0, 9), r.Items...)
	units := append(make([]int, 0, 9), 5, 3, 2, 5)
	list := append(make([]impl.Carton, 0, 4), impl.Carton{Type: 7, Units: units}, impl.Carton{Type: 3, Units: units[:2]})
	pairs, types, items, places := slices.Clone(r.Pairs[:9]), slices.Clone(r.Types[:9]), slices.Clone(r.Items[:9]), slices.Clone(units[:9])
	cartons := slices.Clone(list[:4])
	impl.Cheapest(r, units)
	impl.CartonsOf(r)
	impl.TypeById(r, 7)
	impl.Gross(r, list[0])
	impl.CostOf(r, list)
	if !slices.Equal(pairs, r.Pairs[:9]) || !slices.Equal(types, r.Types[:9]) || !slices.Equal(items, r.Items[:9]) || !slices.Equal(places, units[:9]) {
		t.Error("an argument was written into")
	}
	if !sameCartons(cartons, list[:4]) {
		t.Error("the cartons were written into")
	}
}

// TestDownSharesNothing writes over the units of each carton, and looks at the
// others and at what is told of the order then.
func TestDownSharesNothing(t *testing.T) {
	for _, way := range bothWays() {
		r := mixedRequest()
		r.Way, r.Types[1].Gram = way, 60
		want := impl.CartonsOf(r)
		if len(want) < 4 {
			t.Fatalf("few cartons: %v", want)
		}
		for i := range want {
			got := impl.CartonsOf(r)
			spoil(got[i].Units)
			for j := range got {
				if j != i && !slices.Equal(got[j].Units, want[j].Units) {
					t.Errorf("way %d: writing over carton %d makes carton %d %v", way, i, j, got[j])
				}
			}
			clear(got[:cap(got)])
		}
		x, _ := impl.Cheapest(r, []int{0})
		x.Cost = -1
		if got := impl.CartonsOf(r); !sameCartons(got, want) {
			t.Errorf("way %d: an answer shares memory: %v", way, got)
		}
		checkDown(t, r)
	}
}

// TestDownKeepsNothing turns an order behind a call: what is told then is told
// of the order as it is.
func TestDownKeepsNothing(t *testing.T) {
	r := pricedRequest([3]int{5, 9, 3}, [2]int{2, 1}, [2]int{3, 1})
	checkDown(t, r)
	if got, _ := impl.Cheapest(r, []int{0}); got.Id != 2 {
		t.Errorf("Cheapest = %v", got)
	}
	r.Types[2].Cost = 6
	if got, _ := impl.Cheapest(r, []int{0}); got.Id != 4 {
		t.Errorf("Cheapest, where the cost is another one, = %v", got)
	}
	checkDown(t, r)
	r.Types[0].Cost, r.Types[0].Tare = 10, 50
	if a, b := impl.Gross(r, impl.Carton{Type: 4, Units: []int{0}}), impl.CostOf(r, []impl.Carton{{Type: 4}}); a != 51 || b != 10 {
		t.Errorf("in an order turned: %d, %d", a, b)
	}
	checkDown(t, r)
	checkDown(t, greatestRequest())
	checkDown(t, r)
}
