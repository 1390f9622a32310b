package tests

import (
	"math"
	"slices"
	"strings"
	"testing"

	"loop.example/g00489/impl"
)

// soundRequest is an order of which nothing is wrong. No two sides of a thing
// are the same, so that one that is held against another one's bound is seen;
// and its master is neither the first nor the last of its types.
func soundRequest() impl.Request {
	return impl.Request{
		Way: impl.WyNext, Pallet: impl.Pallet{W: 60, D: 80, H: 100, Gram: 5000}, Classes: 3,
		Pairs: []impl.Pair{{A: 0, B: 0}, {A: 1, B: 1}, {A: 2, B: 2}, {A: 0, B: 2}, {A: 2, B: 0}},
		Types: []impl.Type{
			{Id: 4, W: 9, H: 8, D: 7, Tare: 3, Gram: 50, Cost: 2},
			{Id: 7, W: 40, H: 30, D: 50, Tare: 100, Gram: 900, Cost: 9},
			{Id: 2, W: 10, H: 12, D: 14, Tare: 4, Gram: 70, Cost: 3},
		}, Master: 7,
		Items: []impl.Item{
			{Id: 1, W: 35, H: 45, D: 25, Gram: 400, Class: 0, Count: 2},
			{Id: 5, W: 3, H: 4, D: 5, Gram: 20, Class: 2, Count: 1},
			{Id: 7, W: 6, H: 2, D: 1, Gram: 10, Class: 1, Count: 3},
		},
	}
}

func turnsOf(a int, b int, c int) [][3]int {
	return [][3]int{{a, b, c}, {a, c, b}, {b, a, c}, {b, c, a}, {c, a, b}, {c, b, a}}
}

// fitsWanted turns the unit each of the six ways, rather than sorting sides.
func fitsWanted(x impl.Item, t impl.Type) bool {
	for _, s := range turnsOf(x.W, x.H, x.D) {
		if s[0] <= t.W && s[1] <= t.H && s[2] <= t.D {
			return x.Gram <= t.Gram
		}
	}
	return false
}

func checkFits(t *testing.T, x impl.Item, c impl.Type, want bool) {
	t.Helper()
	if got := impl.Fits(x, c); got != want {
		t.Errorf("Fits(%v, %v) = %v, want %v", x, c, got, want)
	}
}

// TestFitsTurned turns unit and carton all ways, with each side and the weight
// met exactly and passed by one.
func TestFitsTurned(t *testing.T) {
	for _, s := range turnsOf(10, 20, 30) {
		for _, c := range turnsOf(10, 20, 30) {
			box := impl.Type{W: c[0], H: c[1], D: c[2], Gram: 60}
			x := impl.Item{W: s[0], H: s[1], D: s[2], Gram: 60}
			checkFits(t, x, box, true)
			heavy := x
			heavy.Gram = 61
			checkFits(t, heavy, box, false)
			for side, set := range []func(x *impl.Item, by int){
				func(x *impl.Item, by int) { x.W += by },
				func(x *impl.Item, by int) { x.H += by },
				func(x *impl.Item, by int) { x.D += by },
			} {
				more, less := x, x
				set(&more, 1)
				set(&less, -1)
				if impl.Fits(more, box) || !impl.Fits(less, box) {
					t.Errorf("side %d of %v by one more or less, in %v", side, x, box)
				}
			}
		}
	}
}

func TestFitsEachSmall(t *testing.T) {
	for n := range 3 * 3 * 3 * 3 * 3 * 3 {
		x := impl.Item{W: n%3 + 1, H: n/3%3 + 1, D: n/9%3 + 1, Gram: 1}
		box := impl.Type{W: n/27%3 + 1, H: n/81%3 + 1, D: n/243%3 + 1, Gram: 1}
		checkFits(t, x, box, fitsWanted(x, box))
	}
}

// TestFitsLooksAtNoMore has everything but sides and weights wrong: of one unit
// that is no matter.
func TestFitsLooksAtNoMore(t *testing.T) {
	x := impl.Item{Id: -1, W: 5, H: 6, D: 7, Gram: 8, Class: -9, Count: 1000}
	box := impl.Type{Id: 4000, W: 5, H: 6, D: 7, Tare: math.MaxInt64, Gram: 8, Cost: -1}
	checkFits(t, x, box, true)
	x.Count, x.Class, box.Tare, box.Cost = 0, 99, math.MinInt64, math.MaxInt64
	checkFits(t, x, box, true)
	checkFits(t, impl.Item{}, impl.Type{}, true)
}

// wildNumbers are below 0, at both ends of int, and such that a sum or a
// difference of two of them goes round.
func wildNumbers() []int {
	return []int{0, 1, -1, 2001, 100001, 1 << 32, 1<<32 + 1, -1 << 32, 1 << 62, math.MaxInt64, math.MaxInt64 - 1, math.MinInt64, math.MinInt64 + 1}
}

func TestFitsAnyNumbers(t *testing.T) {
	for _, part := range itemParts() {
		for _, other := range typeParts() {
			for _, n := range wildNumbers() {
				for _, m := range wildNumbers() {
					x, box := rightItem(), rightType()
					part.set(&x, n)
					checkFits(t, x, box, fitsWanted(x, box))
					other.set(&box, m)
					checkFits(t, x, box, fitsWanted(x, box))
				}
			}
		}
	}
	ends := []int{math.MinInt64, 0, math.MaxInt64}
	for n := range 3 * 3 * 3 * 3 * 3 * 3 * 3 * 3 {
		x := impl.Item{W: ends[n%3], H: ends[n/3%3], D: ends[n/9%3], Gram: ends[n/27%3]}
		box := impl.Type{W: ends[n/81%3], H: ends[n/243%3], D: ends[n/729%3], Gram: ends[n/2187%3]}
		checkFits(t, x, box, fitsWanted(x, box))
	}
}

func TestMasterOf(t *testing.T) {
	box := func(id int, cost int) impl.Type {
		return impl.Type{Id: id, W: 1, H: 2, D: 3, Tare: 4, Gram: 5, Cost: cost}
	}
	boxes := []impl.Type{box(4, 0), box(7, 1), box(2, 2), box(7, 3), box(4, 4), box(-1, 5), box(math.MinInt64, 6), box(math.MaxInt64, 7)}
	cases := []struct {
		types  []impl.Type
		master int
		want   impl.Type
		ok     bool
	}{
		{boxes, 4, box(4, 0), true}, {boxes, 7, box(7, 1), true}, {boxes, 2, box(2, 2), true},
		{boxes[2:], 4, box(4, 4), true}, {boxes[3:], 7, box(7, 3), true}, {boxes[:1], 4, box(4, 0), true},
		{boxes, -1, box(-1, 5), true}, {boxes, math.MinInt64, box(math.MinInt64, 6), true}, {boxes, math.MaxInt64, box(math.MaxInt64, 7), true},
		{boxes, 0, impl.Type{}, false}, {boxes, 1, impl.Type{}, false}, {boxes, 3, impl.Type{}, false}, {boxes, 5, impl.Type{}, false},
		{boxes[:1], 7, impl.Type{}, false}, {boxes[:5], -1, impl.Type{}, false}, {boxes, -7, impl.Type{}, false}, {boxes, 1<<32 + 7, impl.Type{}, false},
		{nil, 0, impl.Type{}, false}, {[]impl.Type{}, 7, impl.Type{}, false}, {[]impl.Type{{}}, 0, impl.Type{}, true},
		{slices.Repeat([]impl.Type{box(1, 1)}, 1000), 2, impl.Type{}, false},
	}
	for _, c := range cases {
		got, ok := impl.MasterOf(impl.Request{Types: c.types, Master: c.master})
		if got != c.want || ok != c.ok {
			t.Errorf("MasterOf %d of %d types = %v, %v, want %v, %v", c.master, len(c.types), got, ok, c.want, c.ok)
		}
	}
}

// TestMasterOfLooksAtNoMore asks for the master of orders that are wrong in
// all else, with any number in each field of it.
func TestMasterOfLooksAtNoMore(t *testing.T) {
	for _, part := range typeParts() {
		for _, n := range wildNumbers() {
			r := impl.Request{Way: -1, Classes: -1, Types: []impl.Type{{Id: -5}, rightType(), {Id: 2000}}, Items: make([]impl.Item, 99)}
			part.set(&r.Types[1], n)
			r.Master = r.Types[1].Id
			if got, ok := impl.MasterOf(r); !ok || got != r.Types[1] {
				t.Errorf("%s %d: MasterOf = %v, %v", part.name, n, got, ok)
			}
			r.Master = -8
			if got, ok := impl.MasterOf(r); ok || got != (impl.Type{}) {
				t.Errorf("%s %d: MasterOf = %v, %v, want zero and false", part.name, n, got, ok)
			}
		}
	}
}

func namesWanted(r impl.Request) bool {
	typeIds, itemIds := map[int]int{}, map[int]int{}
	for _, x := range r.Types {
		typeIds[x.Id]++
	}
	for _, x := range r.Items {
		itemIds[x.Id]++
		if x.Class >= r.Classes {
			return false
		}
	}
	for _, p := range r.Pairs {
		if p.A >= r.Classes || p.B >= r.Classes {
			return false
		}
	}
	return len(typeIds) == len(r.Types) && len(itemIds) == len(r.Items) && typeIds[r.Master] == 1
}

// classWanted is the chapter's list of reasons, from the last to the first, so
// that a later one never hides an earlier one.
func classWanted(r impl.Request) int {
	if !impl.BoundsOk(r) {
		return 2
	}
	class := 0
	for _, x := range r.Types {
		if x.W > r.Pallet.W || x.D > r.Pallet.D || x.H > r.Pallet.H || x.Tare+x.Gram > r.Pallet.Gram {
			class = 6
		}
	}
	master := slices.IndexFunc(r.Types, func(x impl.Type) bool { return x.Id == r.Master })
	for _, x := range r.Items {
		if master >= 0 && !fitsWanted(x, r.Types[master]) {
			class = 5
		}
	}
	if !tableWanted(r.Pairs, r.Classes) {
		class = 4
	}
	if !namesWanted(r) {
		class = 3
	}
	return class
}

// classTurn turns something of soundRequest, with what is wrong of it then.
type classTurn struct {
	name string
	turn func(r *impl.Request)
	want int
}

func checkTurns(t *testing.T, turns []classTurn) {
	t.Helper()
	for _, x := range turns {
		r := soundRequest()
		x.turn(&r)
		if got := impl.Class(r); got != x.want || classWanted(r) != x.want {
			t.Errorf("%s: Class = %d, want %d", x.name, got, x.want)
		}
		if got := impl.ClassOf(impl.OrderText(r)); got != x.want {
			t.Errorf("%s: ClassOf its text = %d, want %d", x.name, got, x.want)
		}
	}
}

func TestClassNumbers(t *testing.T) {
	got := []int{impl.ClNone, impl.ClText, impl.ClBounds, impl.ClNames, impl.ClTable, impl.ClUnit, impl.ClPallet}
	if !slices.Equal(got, []int{0, 1, 2, 3, 4, 5, 6}) {
		t.Errorf("the reasons are numbered %v", got)
	}
}

func TestClassNothingWrong(t *testing.T) {
	checkTurns(t, []classTurn{
		{"as it is", func(r *impl.Request) {}, impl.ClNone},
		{"the other way", func(r *impl.Request) { r.Way = impl.WyFirst }, impl.ClNone},
		{"no item", func(r *impl.Request) { r.Items = nil }, impl.ClNone},
		{"an empty list of items", func(r *impl.Request) { r.Items = []impl.Item{} }, impl.ClNone},
		{"one type", func(r *impl.Request) { r.Types = r.Types[1:2] }, impl.ClNone},
		{"one kind", func(r *impl.Request) { r.Classes, r.Pairs, r.Items = 1, r.Pairs[:1], r.Items[:1] }, impl.ClNone},
		{"a pair twice", func(r *impl.Request) { r.Pairs = append(r.Pairs, r.Pairs[0], r.Pairs[3]) }, impl.ClNone},
		{"all kinds beside all", func(r *impl.Request) { r.Classes, r.Pairs = 4, freeTable() }, impl.ClNone},
		{"an item with the Id of a type", func(r *impl.Request) { r.Items[0].Id = 4 }, impl.ClNone},
		{"another type as greatest that holds all", func(r *impl.Request) { r.Master, r.Items = 2, r.Items[1:] }, impl.ClNone},
		{"the greatest of all", func(r *impl.Request) { *r = greatestRequest() }, impl.ClNone},
		{"the least of all", func(r *impl.Request) { *r = leastRequest() }, impl.ClNone},
	})
}

func greatestRequest() impl.Request {
	r := impl.Request{Way: impl.WyNext, Pallet: impl.Pallet{W: 2000, D: 2000, H: 2000, Gram: 100000}, Classes: 4, Pairs: freeTable(), Master: 999}
	for i := range 5 {
		r.Types = append(r.Types, impl.Type{Id: 995 + i, W: 2000, H: 2000, D: 2000, Tare: 0, Gram: 100000, Cost: 100000})
	}
	for i := range 8 {
		r.Items = append(r.Items, impl.Item{Id: 992 + i, W: 2000, H: 2000, D: 2000, Gram: 100000, Class: 3, Count: 1})
	}
	r.Items[7].Count = 5
	return r
}

func leastRequest() impl.Request {
	return impl.Request{
		Pallet: impl.Pallet{W: 1, D: 1, H: 1, Gram: 1}, Classes: 1, Pairs: []impl.Pair{{}},
		Types: []impl.Type{{W: 1, H: 1, D: 1, Gram: 1}}, Items: []impl.Item{{W: 1, H: 1, D: 1, Gram: 1, Count: 1}},
	}
}

func TestClassBounds(t *testing.T) {
	checkTurns(t, []classTurn{
		{"no type", func(r *impl.Request) { r.Types = nil }, impl.ClBounds},
		{"no type and no item", func(r *impl.Request) { r.Types, r.Items = nil, nil }, impl.ClBounds},
		{"too many units", func(r *impl.Request) { r.Items[0].Count, r.Items[1].Count, r.Items[2].Count = 6, 6, 1 }, impl.ClBounds},
		{"as many units as may be", func(r *impl.Request) { r.Items[0].Count, r.Items[1].Count, r.Items[2].Count = 6, 5, 1 }, impl.ClNone},
		{"no kinds", func(r *impl.Request) { r.Classes = 0 }, impl.ClBounds},
		{"too many kinds", func(r *impl.Request) { r.Classes = 5 }, impl.ClBounds},
		{"a pallet of nothing", func(r *impl.Request) { r.Pallet = impl.Pallet{} }, impl.ClBounds},
		{"the zero order", func(r *impl.Request) { *r = impl.Request{} }, impl.ClBounds},
		{"a master beyond all", func(r *impl.Request) { r.Master = 1000 }, impl.ClBounds},
	})
}

func TestClassNames(t *testing.T) {
	turns := []classTurn{
		{"a master that is not there", func(r *impl.Request) { r.Master = 8 }, impl.ClNames},
		{"a master that is an item", func(r *impl.Request) { r.Master = 5 }, impl.ClNames},
		{"two types of the master's Id", func(r *impl.Request) { r.Types[2].Id = 7 }, impl.ClNames},
		{"two types of the master's Id, the other ahead", func(r *impl.Request) { r.Types[0].Id = 7 }, impl.ClNames},
		{"two same types", func(r *impl.Request) { r.Types[0] = r.Types[2] }, impl.ClNames},
		{"two same items", func(r *impl.Request) { r.Items[2] = r.Items[0] }, impl.ClNames},
		{"one kind less", func(r *impl.Request) { r.Classes = 2 }, impl.ClNames},
		{"one kind less, and no pairs of it", func(r *impl.Request) { r.Classes, r.Pairs = 2, r.Pairs[:2] }, impl.ClNames},
		{"one kind less, and no items of it", func(r *impl.Request) { r.Classes, r.Items = 2, r.Items[:1] }, impl.ClNames},
		{"one kind less, of neither", func(r *impl.Request) { r.Classes, r.Pairs, r.Items = 2, r.Pairs[:2], r.Items[:1] }, impl.ClNone},
		{"a pair beyond both ways", func(r *impl.Request) { r.Pairs = append(r.Pairs, impl.Pair{A: 3, B: 3}) }, impl.ClNames},
		{"a pair of A beyond, behind", func(r *impl.Request) { r.Pairs = append(r.Pairs, impl.Pair{A: 3, B: 0}) }, impl.ClNames},
		{"a pair of B beyond, behind", func(r *impl.Request) { r.Pairs = append(r.Pairs, impl.Pair{A: 0, B: 3}) }, impl.ClNames},
		{"a pair of A beyond, ahead", func(r *impl.Request) { r.Pairs = append([]impl.Pair{{A: 3, B: 0}}, r.Pairs...) }, impl.ClNames},
		{"a pair of B beyond, ahead", func(r *impl.Request) { r.Pairs = append([]impl.Pair{{A: 0, B: 3}}, r.Pairs...) }, impl.ClNames},
		{"a pair of the last kind", func(r *impl.Request) { r.Pairs = append(r.Pairs, impl.Pair{A: 1, B: 2}, impl.Pair{A: 2, B: 1}) }, impl.ClNone},
	}
	for i := range 3 {
		turns = append(turns,
			classTurn{"an item of the last kind", func(r *impl.Request) { r.Items[i].Class = 2 }, impl.ClNone},
			classTurn{"an item of a kind beyond", func(r *impl.Request) { r.Items[i].Class = 3 }, impl.ClNames})
		for k := range i {
			turns = append(turns,
				classTurn{"two types of one Id", func(r *impl.Request) { r.Types[i].Id = r.Types[k].Id }, impl.ClNames},
				classTurn{"two items of one Id", func(r *impl.Request) { r.Items[i].Id = r.Items[k].Id }, impl.ClNames})
		}
	}
	checkTurns(t, turns)
}

// TestClassNamesFullLists looks for each two of the longest lists that may be.
func TestClassNamesFullLists(t *testing.T) {
	for i := range 8 {
		for k := range i {
			r := greatestRequest()
			r.Items[i].Id = r.Items[k].Id
			if got := impl.Class(r); got != impl.ClNames {
				t.Errorf("items %d and %d of one Id: %d", k, i, got)
			}
			if i >= 5 {
				continue
			}
			r = greatestRequest()
			r.Types[i].Id = r.Types[k].Id
			if got := impl.Class(r); got != impl.ClNames {
				t.Errorf("types %d and %d of one Id: %d", k, i, got)
			}
		}
	}
}

func TestClassTable(t *testing.T) {
	turns := []classTurn{
		{"no pair", func(r *impl.Request) { r.Pairs = nil }, impl.ClTable},
		{"no pair and no item", func(r *impl.Request) { r.Pairs, r.Items = nil, nil }, impl.ClTable},
		{"one kind more than there are pairs of", func(r *impl.Request) { r.Classes = 4 }, impl.ClTable},
		{"a kind of no item that isn't beside itself", func(r *impl.Request) { r.Pairs, r.Items = append(r.Pairs[:1], r.Pairs[2:]...), r.Items[:1] }, impl.ClTable},
	}
	for i := range 5 {
		turns = append(turns, classTurn{"a pair less", func(r *impl.Request) { r.Pairs = slices.Delete(r.Pairs, i, i+1) }, impl.ClTable})
	}
	checkTurns(t, turns)
	for bits := range 1 << 9 {
		r := soundRequest()
		r.Pairs = pairsOfBits(bits, []int{0, 1, 2})
		want := impl.ClNone
		if !tableWanted(r.Pairs, 3) {
			want = impl.ClTable
		}
		if got := impl.Class(r); got != want {
			t.Fatalf("pairs %v: Class = %d, want %d", r.Pairs, got, want)
		}
	}
}

func TestClassUnit(t *testing.T) {
	turns := []classTurn{
		{"a master that is too small for all", func(r *impl.Request) { r.Master = 2 }, impl.ClUnit},
		{"a unit that only another type holds", func(r *impl.Request) { r.Master, r.Items = 4, r.Items[:1] }, impl.ClUnit},
	}
	for i := range 3 {
		put := func(x impl.Item) func(r *impl.Request) {
			return func(r *impl.Request) {
				x.Id, x.Class, x.Count = r.Items[i].Id, r.Items[i].Class, r.Items[i].Count
				r.Items[i] = x
			}
		}
		for _, s := range turnsOf(30, 40, 50) {
			turns = append(turns,
				classTurn{"met exactly", put(impl.Item{W: s[0], H: s[1], D: s[2], Gram: 900}), impl.ClNone},
				classTurn{"too heavy by one", put(impl.Item{W: s[0], H: s[1], D: s[2], Gram: 901}), impl.ClUnit},
				classTurn{"W too great by one", put(impl.Item{W: s[0] + 1, H: s[1], D: s[2], Gram: 900}), impl.ClUnit},
				classTurn{"H too great by one", put(impl.Item{W: s[0], H: s[1] + 1, D: s[2], Gram: 900}), impl.ClUnit},
				classTurn{"D too great by one", put(impl.Item{W: s[0], H: s[1], D: s[2] + 1, Gram: 900}), impl.ClUnit})
		}
	}
	turns = append(turns, classTurn{"all units together far too heavy", func(r *impl.Request) { r.Items[0].Gram, r.Items[0].Count = 900, 6 }, impl.ClNone})
	checkTurns(t, turns)
}

// TestClassPallet puts a type as wide, deep, high and heavy as the pallet
// holds at each place, and such that are turned.
func TestClassPallet(t *testing.T) {
	turns := []classTurn{}
	for i, had := range soundRequest().Types {
		put := func(w int, h int, d int, tare int, gram int) func(r *impl.Request) {
			return func(r *impl.Request) {
				r.Types[i] = impl.Type{Id: had.Id, W: max(w, had.W), H: max(h, had.H), D: max(d, had.D), Tare: tare, Gram: gram, Cost: had.Cost}
			}
		}
		turns = append(turns,
			classTurn{"all met exactly", put(60, 100, 80, 4000, 1000), impl.ClNone},
			classTurn{"as wide", put(60, 0, 0, 1, 900), impl.ClNone}, classTurn{"wider by one", put(61, 0, 0, 1, 900), impl.ClPallet},
			classTurn{"as high", put(0, 100, 0, 1, 900), impl.ClNone}, classTurn{"higher by one", put(0, 101, 0, 1, 900), impl.ClPallet},
			classTurn{"as deep", put(0, 0, 80, 1, 900), impl.ClNone}, classTurn{"deeper by one", put(0, 0, 81, 1, 900), impl.ClPallet},
			classTurn{"as heavy, no Tare", put(0, 0, 0, 0, 5000), impl.ClNone}, classTurn{"heavier by one, no Tare", put(0, 0, 0, 0, 5001), impl.ClPallet},
			classTurn{"as heavy", put(0, 0, 0, 4100, 900), impl.ClNone}, classTurn{"heavier by one Tare", put(0, 0, 0, 4101, 900), impl.ClPallet},
			classTurn{"heavier by one Gram", put(0, 0, 0, 4100, 901), impl.ClPallet}, classTurn{"Tare alone too heavy", put(0, 0, 0, 5001, 900), impl.ClPallet},
			classTurn{"as heavy as can be", put(0, 0, 0, 100000, 100000), impl.ClPallet})
		for _, s := range turnsOf(60, 100, 80)[1:] {
			turns = append(turns, classTurn{"turned", put(s[0], s[1], s[2], 1, 900), impl.ClPallet})
		}
	}
	turns = append(turns,
		classTurn{"a pallet as wide as the widest", func(r *impl.Request) { r.Pallet.W = 40 }, impl.ClNone}, classTurn{"and by one less", func(r *impl.Request) { r.Pallet.W = 39 }, impl.ClPallet},
		classTurn{"a pallet as deep as the deepest", func(r *impl.Request) { r.Pallet.D = 50 }, impl.ClNone}, classTurn{"and by one less", func(r *impl.Request) { r.Pallet.D = 49 }, impl.ClPallet},
		classTurn{"a pallet as high as the highest", func(r *impl.Request) { r.Pallet.H = 30 }, impl.ClNone}, classTurn{"and by one less", func(r *impl.Request) { r.Pallet.H = 29 }, impl.ClPallet},
		classTurn{"a pallet for the heaviest", func(r *impl.Request) { r.Pallet.Gram = 1000 }, impl.ClNone}, classTurn{"and by one less", func(r *impl.Request) { r.Pallet.Gram = 999 }, impl.ClPallet})
	checkTurns(t, turns)
}

// TestClassFirstReason takes each set of reasons, in several forms of each: the
// first of the set counts, whatever the others are.
func TestClassFirstReason(t *testing.T) {
	forms := []map[int]func(r *impl.Request){
		{
			impl.ClBounds: func(r *impl.Request) { r.Way = 2 }, impl.ClNames: func(r *impl.Request) { r.Items[2].Id = r.Items[1].Id },
			impl.ClTable: func(r *impl.Request) { r.Pairs = r.Pairs[1:] }, impl.ClUnit: func(r *impl.Request) { r.Items[0].W = 51 },
			impl.ClPallet: func(r *impl.Request) { r.Types[0].H = 101 },
		},
		{
			impl.ClBounds: func(r *impl.Request) { r.Items[2].Count = 7 }, impl.ClNames: func(r *impl.Request) { r.Types[2].Id = r.Types[0].Id },
			impl.ClTable: func(r *impl.Request) { r.Pairs = r.Pairs[:4] }, impl.ClUnit: func(r *impl.Request) { r.Items[2].Gram = 901 },
			impl.ClPallet: func(r *impl.Request) { r.Types[2].Tare = 4931 },
		},
		{
			impl.ClBounds: func(r *impl.Request) { r.Types[0].Cost = 100001 }, impl.ClNames: func(r *impl.Request) { r.Master = 9 },
			impl.ClTable: func(r *impl.Request) { r.Pairs = nil }, impl.ClUnit: func(r *impl.Request) { r.Types[1].Gram = 9 },
			impl.ClPallet: func(r *impl.Request) { r.Pallet.Gram = 1 },
		},
		{
			impl.ClBounds: func(r *impl.Request) { r.Pallet.W = 2001 }, impl.ClNames: func(r *impl.Request) { r.Items[0].Class = 3 },
			impl.ClTable: func(r *impl.Request) { r.Pairs = append(r.Pairs, impl.Pair{A: 1, B: 0}) }, impl.ClUnit: func(r *impl.Request) { r.Items[1].D = 2000 },
			impl.ClPallet: func(r *impl.Request) { r.Types[2].D = 81 },
		},
	}
	for n, form := range forms {
		for set := range 1 << 5 {
			r, want := soundRequest(), impl.ClNone
			for class := impl.ClPallet; class >= impl.ClBounds; class-- {
				if set>>(class-impl.ClBounds)&1 == 1 {
					form[class](&r)
					want = class
				}
			}
			if got := impl.Class(r); got != want || classWanted(r) != want {
				t.Errorf("form %d, reasons %05b: Class = %d, want %d", n, set, got, want)
			}
			s := impl.OrderText(r)
			if r.Way <= impl.WyNext && impl.ClassOf(s) != want {
				t.Errorf("form %d, reasons %05b: ClassOf = %d, want %d", n, set, impl.ClassOf(s), want)
			}
			if got := impl.ClassOf(s + "x"); got != impl.ClText {
				t.Errorf("form %d, reasons %05b, and no text: ClassOf = %d", n, set, got)
			}
		}
	}
}

func soundNumbers(r *impl.Request) []*int { return append(toldNumbers(r), &r.Way) }

// TestClassAnyNumbers puts numbers near all bounds, and far beyond, into each
// two places.
func TestClassAnyNumbers(t *testing.T) {
	first := soundRequest()
	places := len(soundNumbers(&first))
	for i := range places {
		for _, n := range append(wildNumbers(), 2, 3, 4, 5, 7, 29, 30, 40, 41, 50, 51, 60, 61, 899, 900, 901, 1000, 5000, 5001, 2000, 100000, -100000) {
			r := soundRequest()
			*soundNumbers(&r)[i] = n
			if got, want := impl.Class(r), classWanted(r); got != want {
				t.Fatalf("number %d as %d: Class = %d, want %d", i, n, got, want)
			}
			for k := range i {
				for _, m := range []int{math.MinInt64, -1, 0, 1, 3, 7, 55, 950, 2001, math.MaxInt64} {
					two := soundRequest()
					*soundNumbers(&two)[i] = n
					*soundNumbers(&two)[k] = m
					if got, want := impl.Class(two), classWanted(two); got != want {
						t.Fatalf("numbers %d, %d as %d, %d: Class = %d, want %d", i, k, n, m, got, want)
					}
				}
			}
		}
	}
}

// TestClassLongLists has lists that are far too long, of things that are alike.
func TestClassLongLists(t *testing.T) {
	r := soundRequest()
	r.Pairs, r.Types, r.Items = slices.Repeat(r.Pairs, 10000), slices.Repeat(r.Types, 10000), slices.Repeat(r.Items, 10000)
	if got := impl.Class(r); got != impl.ClBounds {
		t.Errorf("Class = %d", got)
	}
	if m, ok := impl.MasterOf(r); !ok || m != soundRequest().Types[1] {
		t.Errorf("MasterOf = %v, %v", m, ok)
	}
}

func TestClassOf(t *testing.T) {
	sound := impl.OrderText(soundRequest())
	cases := []struct {
		name string
		s    string
		want int
	}{
		{"an order", sound, impl.ClNone},
		{"the empty text", "", impl.ClText},
		{"a byte 10", "\n", impl.ClText},
		{"no order", "way", impl.ClText},
		{"any bytes", "\xff\x00\n\n", impl.ClText},
		{"no byte 10 behind", strings.TrimSuffix(sound, "\n"), impl.ClText},
		{"a line more", sound + "\n", impl.ClText},
		{"a line less", strings.TrimPrefix(sound, "way next\n"), impl.ClText},
		{"two blanks", strings.Replace(sound, " ", "  ", 1), impl.ClText},
		{"a third way", strings.Replace(sound, "next", "last", 1), impl.ClText},
		{"no number", strings.Replace(sound, "master 7", "master 07", 1), impl.ClText},
		{"a number that no text has", strings.Replace(sound, "master 7", "master 1000000", 1), impl.ClText},
		{"a number below 0", strings.Replace(sound, "master 7", "master -1", 1), impl.ClText},
		{"a number that no order has", strings.Replace(sound, "master 7", "master 999999", 1), impl.ClBounds},
		{"a number that no type has", strings.Replace(sound, "master 7", "master 999", 1), impl.ClNames},
		{"the least text", "way first\npallet 0 0 0 0\nclasses 0\nmaster 0\n", impl.ClBounds},
		{"60 lines", textOf(linesWith(60)), impl.ClBounds},
		{"61 lines", textOf(linesWith(61)), impl.ClText},
		{"a wrong order, and no text", impl.OrderText(impl.Request{}) + "x", impl.ClText},
	}
	for _, c := range cases {
		if got := impl.ClassOf(c.s); got != c.want {
			t.Errorf("%s: ClassOf = %d, want %d", c.name, got, c.want)
		}
	}
}

// TestClassOfEachPiece ends a text behind each of its bytes, and leaves each
// of them out.
func TestClassOfEachPiece(t *testing.T) {
	s := impl.OrderText(soundRequest())
	for i := range len(s) {
		for _, piece := range []string{s[:i], s[:i] + s[i+1:]} {
			want := impl.ClText
			if r, at := impl.ReadOrder(piece); at == -1 {
				want = classWanted(r)
			}
			if got := impl.ClassOf(piece); got != want {
				t.Fatalf("ClassOf(%q) = %d, want %d", piece, got, want)
			}
		}
	}
}

func TestClassText(t *testing.T) {
	for k, want := range []string{"ok", "text", "bounds", "names", "table", "unit", "pallet"} {
		if got := impl.ClassText(k); got != want {
			t.Errorf("ClassText(%d) = %q, want %q", k, got, want)
		}
	}
	for _, k := range []int{-1, -2, -7, 7, 8, 14, 256, 1 << 32, 1<<32 + 1, -1 << 32, math.MaxInt64, math.MinInt64, math.MinInt64 + 1} {
		if got := impl.ClassText(k); got != "" {
			t.Errorf("ClassText(%d) = %q, want nothing", k, got)
		}
	}
}

// TestClassWritesNothing looks at the lists and at the spare room behind them,
// of an order of which nothing is wrong and so all is looked at.
func TestClassWritesNothing(t *testing.T) {
	r := soundRequest()
	r.Pairs = append(make([]impl.Pair, 0, 9), r.Pairs...)
	r.Types = append(make([]impl.Type, 0, 9), r.Types...)
	r.Items = append(make([]impl.Item, 0, 9), r.Items...)
	pairs, types, items := slices.Clone(r.Pairs[:9]), slices.Clone(r.Types[:9]), slices.Clone(r.Items[:9])
	impl.Class(r)
	impl.MasterOf(r)
	impl.Fits(r.Items[0], r.Types[1])
	if !slices.Equal(pairs, r.Pairs[:9]) || !slices.Equal(types, r.Types[:9]) || !slices.Equal(items, r.Items[:9]) {
		t.Error("an argument was written into")
	}
}
