package tests

import (
	"math"
	"slices"
	"testing"

	"loop.example/g00489/impl"
)

// The wanted answers are the chapter's words, written out once more over
// classWanted and stands.

func unitsWanted(r impl.Request) []int {
	places := []int{}
	if classWanted(r) != 0 {
		return places
	}
	for i, x := range r.Items {
		places = append(places, slices.Repeat([]int{i}, x.Count)...)
	}
	return places
}

func presentWanted(r impl.Request) []int {
	kinds := []int{}
	for kind := range 4 {
		if slices.ContainsFunc(unitsWanted(r), func(i int) bool { return r.Items[i].Class == kind }) {
			kinds = append(kinds, kind)
		}
	}
	return kinds
}

func groupsWanted(r impl.Request) [][]int {
	groups := [][]int{}
	for _, kind := range presentWanted(r) {
		mayGo := func(group []int) bool {
			return !slices.ContainsFunc(group, func(other int) bool { return !stands(r.Pairs, kind, other) || !stands(r.Pairs, other, kind) })
		}
		if i := slices.IndexFunc(groups, mayGo); i >= 0 {
			groups[i] = append(groups[i], kind)
		} else {
			groups = append(groups, []int{kind})
		}
	}
	return groups
}

func unitsOfWanted(r impl.Request, k int) []int {
	list, groups := []int{}, groupsWanted(r)
	for u, i := range unitsWanted(r) {
		if k >= 0 && k < len(groups) && slices.Contains(groups[k], r.Items[i].Class) {
			list = append(list, u)
		}
	}
	return list
}

// sumsWanted are VolumeOf and GramOf.
func sumsWanted(r impl.Request, units []int) (int, int) {
	volume, gram, places := 0, 0, unitsWanted(r)
	for _, u := range units {
		if u >= 0 && u < len(places) {
			x := r.Items[places[u]]
			volume += x.W * x.H * x.D
			gram += x.Gram
		}
	}
	return volume, gram
}

func checkSums(t *testing.T, r impl.Request, units []int) {
	t.Helper()
	volume, gram := sumsWanted(r, units)
	if got := impl.VolumeOf(r, units); got != volume {
		t.Errorf("VolumeOf %v of %v = %d, want %d", units[:min(len(units), 20)], r.Items, got, volume)
	}
	if got := impl.GramOf(r, units); got != gram {
		t.Errorf("GramOf %v of %v = %d, want %d", units[:min(len(units), 20)], r.Items, got, gram)
	}
}

// checkPromise6 puts the units of all groups together: each place is there
// once, and they come to what all units come to.
func checkPromise6(t *testing.T, r impl.Request) {
	t.Helper()
	together, volume, gram := []int{}, 0, 0
	for k := range impl.GroupsOf(r) {
		list := impl.UnitsOf(r, k)
		if len(list) == 0 {
			t.Errorf("group %d of %v has no unit", k, r)
		}
		together = append(together, list...)
		volume += impl.VolumeOf(r, list)
		gram += impl.GramOf(r, list)
	}
	slices.Sort(together)
	all := placesTo(len(impl.Units(r)))
	if !slices.Equal(together, all) {
		t.Errorf("the groups' units of %v are %v, want each of %v once", r, together, all)
	}
	if volume != impl.VolumeOf(r, all) || gram != impl.GramOf(r, all) {
		t.Errorf("the groups of %v come to %d and %d, all units to %d and %d", r, volume, gram, impl.VolumeOf(r, all), impl.GramOf(r, all))
	}
}

func placesTo(n int) []int {
	list := []int{}
	for i := range n {
		list = append(list, i)
	}
	return list
}

func sameLists(a [][]int, b [][]int) bool { return slices.EqualFunc(a, b, slices.Equal[[]int]) }

// checkUnits asks all six functions for one order.
func checkUnits(t *testing.T, r impl.Request) {
	t.Helper()
	units, groups := unitsWanted(r), groupsWanted(r)
	if got := impl.Units(r); !slices.Equal(got, units) {
		t.Errorf("Units(%v) = %v, want %v", r, got, units)
	}
	if got, want := impl.Present(r), presentWanted(r); !slices.Equal(got, want) {
		t.Errorf("Present(%v) = %v, want %v", r, got, want)
	}
	if got := impl.GroupsOf(r); !sameLists(got, groups) {
		t.Errorf("GroupsOf(%v) = %v, want %v", r, got, groups)
	}
	for k := -1; k <= len(groups); k++ {
		if got, want := impl.UnitsOf(r, k), unitsOfWanted(r, k); !slices.Equal(got, want) {
			t.Errorf("UnitsOf(%v, %d) = %v, want %v", r, k, got, want)
		}
	}
	for u := -1; u <= len(units); u++ {
		checkSums(t, r, []int{u})
	}
	checkSums(t, r, placesTo(len(units)))
	checkPromise6(t, r)
}

func TestUnitsByHand(t *testing.T) {
	r := soundRequest()
	if got := impl.Units(r); !slices.Equal(got, []int{0, 0, 1, 2, 2, 2}) {
		t.Errorf("Units = %v", got)
	}
	if got := impl.Present(r); !slices.Equal(got, []int{0, 1, 2}) {
		t.Errorf("Present = %v", got)
	}
	if got := impl.GroupsOf(r); !sameLists(got, [][]int{{0, 2}, {1}}) {
		t.Errorf("GroupsOf = %v", got)
	}
	if a, b := impl.UnitsOf(r, 0), impl.UnitsOf(r, 1); !slices.Equal(a, []int{0, 1, 2}) || !slices.Equal(b, []int{3, 4, 5}) {
		t.Errorf("UnitsOf = %v, %v", a, b)
	}
	for i, want := range [][2]int{{39375, 400}, {39375, 400}, {60, 20}, {12, 10}, {12, 10}, {12, 10}} {
		if v, g := impl.VolumeOf(r, []int{i}), impl.GramOf(r, []int{i}); v != want[0] || g != want[1] {
			t.Errorf("unit %d: %d, %d, want %v", i, v, g, want)
		}
	}
	if v, g := impl.VolumeOf(r, placesTo(6)), impl.GramOf(r, placesTo(6)); v != 78846 || g != 850 {
		t.Errorf("all units: %d, %d", v, g)
	}
	checkUnits(t, r)
}

// mixedRequest has items of two groups by turns, the greatest kind ahead, and
// kinds and groups that are not numbered alike.
func mixedRequest() impl.Request {
	r := soundRequest()
	r.Classes, r.Pairs = 4, append(r.Pairs, impl.Pair{A: 3, B: 3}, impl.Pair{A: 3, B: 1}, impl.Pair{A: 1, B: 3})
	r.Items = nil
	for i, class := range []int{3, 2, 1, 0, 3} {
		r.Items = append(r.Items, impl.Item{Id: 90 - i, W: 1 + i, H: 2, D: 3, Gram: 10 * (1 + i), Class: class, Count: 1 + i%3})
	}
	return r
}

func TestUnitsOfGroupsByTurns(t *testing.T) {
	r := mixedRequest()
	if got := impl.Units(r); !slices.Equal(got, []int{0, 1, 1, 2, 2, 2, 3, 4, 4}) {
		t.Errorf("Units = %v", got)
	}
	if got := impl.GroupsOf(r); !sameLists(got, [][]int{{0, 2}, {1, 3}}) {
		t.Errorf("GroupsOf = %v", got)
	}
	if a, b := impl.UnitsOf(r, 0), impl.UnitsOf(r, 1); !slices.Equal(a, []int{1, 2, 6}) || !slices.Equal(b, []int{0, 3, 4, 5, 7, 8}) {
		t.Errorf("UnitsOf = %v, %v", a, b)
	}
	checkUnits(t, r)
	r.Items = slices.Delete(r.Items, 3, 4)
	if got := impl.Present(r); !slices.Equal(got, []int{1, 2, 3}) {
		t.Errorf("Present without kind 0 = %v", got)
	}
	if got := impl.GroupsOf(r); !sameLists(got, [][]int{{1, 3}, {2}}) {
		t.Errorf("GroupsOf without kind 0 = %v", got)
	}
	checkUnits(t, r)
}

// soundTable is one of the 64 tables of four kinds that are TableOk.
func soundTable(bits int) []impl.Pair {
	pairs := []impl.Pair{{A: 2, B: 2}, {A: 0, B: 0}, {A: 3, B: 3}, {A: 1, B: 1}}
	for a := range 4 {
		for b := range a {
			if bits&1 == 1 {
				pairs = append(pairs, impl.Pair{A: a, B: b}, impl.Pair{A: b, B: a})
			}
			bits >>= 1
		}
	}
	return pairs
}

// TestEachUnitIsInOneGroup is promise 6: over each table there is, the items of
// any kinds in any order.
func TestEachUnitIsInOneGroup(t *testing.T) {
	for bits := range 64 {
		for kinds := range 4 * 4 * 4 * 4 {
			r := soundRequest()
			r.Classes, r.Pairs, r.Items = 4, soundTable(bits), nil
			for i := range 4 {
				x := impl.Item{Id: 9 - i, W: 1 + i, H: 3, D: 5, Gram: 7 + i, Class: kinds >> (2 * i) & 3, Count: 1 + (bits+kinds+i)%3}
				r.Items = append(r.Items, x)
			}
			checkUnits(t, r)
		}
	}
}

// TestUnitsEachCount has each number of units that there can be of three items.
func TestUnitsEachCount(t *testing.T) {
	for n := range 8 * 8 * 8 {
		r := soundRequest()
		for i := range 3 {
			r.Items[i].Count = n >> (3 * i) & 7
		}
		checkUnits(t, r)
	}
	for n := range 10 {
		r := greatestRequest()
		r.Items[7].Count = 1
		r.Items = append(r.Items, impl.Item{Id: 1, W: 1, H: 1, D: 1, Gram: 1, Count: 1})[:n]
		checkUnits(t, r)
	}
}

func checkNoUnits(t *testing.T, what string, r impl.Request) {
	t.Helper()
	if a, b, c := impl.Units(r), impl.Present(r), impl.GroupsOf(r); len(a) != 0 || len(b) != 0 || len(c) != 0 {
		t.Errorf("%s: Units = %v, Present = %v, GroupsOf = %v", what, a, b, c)
	}
	for k := -1; k <= 4; k++ {
		if got := impl.UnitsOf(r, k); len(got) != 0 {
			t.Errorf("%s: UnitsOf %d = %v", what, k, got)
		}
	}
	for _, units := range [][]int{nil, {0}, {5}, placesTo(12), {-1, 0, 1, math.MaxInt64}} {
		if v, g := impl.VolumeOf(r, units), impl.GramOf(r, units); v != 0 || g != 0 {
			t.Errorf("%s: %v come to %d and %d", what, units, v, g)
		}
	}
}

func TestUnitsNoItem(t *testing.T) {
	r := soundRequest()
	r.Items = nil
	checkNoUnits(t, "no item", r)
	r.Items = []impl.Item{}
	checkNoUnits(t, "an empty list of items", r)
	r.Items = soundRequest().Items[:0]
	checkNoUnits(t, "an empty list with room behind", r)
	if impl.Class(r) != impl.ClNone {
		t.Error("something is wrong with it")
	}
}

// wrongTurns has each reason in several forms.
func wrongTurns() []classTurn {
	return []classTurn{
		{"way", func(r *impl.Request) { r.Way = 2 }, impl.ClBounds},
		{"a Count of nothing", func(r *impl.Request) { r.Items[1].Count = 0 }, impl.ClBounds},
		{"a Count below 0", func(r *impl.Request) { r.Items[0].Count = math.MinInt64 }, impl.ClBounds},
		{"a Count without end", func(r *impl.Request) { r.Items[0].Count = math.MaxInt64 }, impl.ClBounds},
		{"one unit too many", func(r *impl.Request) { r.Items[0].Count, r.Items[1].Count, r.Items[2].Count = 6, 6, 1 }, impl.ClBounds},
		{"a Class that is none", func(r *impl.Request) { r.Items[2].Class = 4 }, impl.ClBounds},
		{"no type", func(r *impl.Request) { r.Types = nil }, impl.ClBounds},
		{"the zero order", func(r *impl.Request) { *r = impl.Request{} }, impl.ClBounds},
		{"two items of one Id", func(r *impl.Request) { r.Items[2].Id = r.Items[0].Id }, impl.ClNames},
		{"two types of one Id", func(r *impl.Request) { r.Types[2].Id = r.Types[0].Id }, impl.ClNames},
		{"no master", func(r *impl.Request) { r.Master = 8 }, impl.ClNames},
		{"a kind beyond", func(r *impl.Request) { r.Items[1].Class = 3 }, impl.ClNames},
		{"a pair beyond", func(r *impl.Request) { r.Pairs = append(r.Pairs, impl.Pair{A: 3, B: 3}) }, impl.ClNames},
		{"no pair", func(r *impl.Request) { r.Pairs = nil }, impl.ClTable},
		{"one way alone", func(r *impl.Request) { r.Pairs = r.Pairs[:4] }, impl.ClTable},
		{"a kind that isn't beside itself", func(r *impl.Request) { r.Pairs = r.Pairs[1:] }, impl.ClTable},
		{"a unit too great", func(r *impl.Request) { r.Items[2].W = 51 }, impl.ClUnit},
		{"a unit too heavy", func(r *impl.Request) { r.Items[1].Gram = 901 }, impl.ClUnit},
		{"a type too high", func(r *impl.Request) { r.Types[2].H = 101 }, impl.ClPallet},
		{"a type too heavy", func(r *impl.Request) { r.Types[0].Tare = 4951 }, impl.ClPallet},
	}
}

func TestUnitsOfWrongOrders(t *testing.T) {
	for _, x := range wrongTurns() {
		r := soundRequest()
		x.turn(&r)
		if got := impl.Class(r); got != x.want {
			t.Errorf("%s: Class = %d, want %d", x.name, got, x.want)
		}
		checkNoUnits(t, x.name, r)
	}
}

func TestUnitsOfLimits(t *testing.T) {
	great := greatestRequest()
	if got := impl.Units(great); !slices.Equal(got, []int{0, 1, 2, 3, 4, 5, 6, 7, 7, 7, 7, 7}) {
		t.Errorf("Units of the greatest order = %v", got)
	}
	if v, g := impl.VolumeOf(great, placesTo(12)), impl.GramOf(great, placesTo(12)); v != 96000000000 || g != 1200000 {
		t.Errorf("the greatest order comes to %d and %d", v, g)
	}
	checkUnits(t, great)
	least := leastRequest()
	if v, g := impl.VolumeOf(least, []int{0}), impl.GramOf(least, []int{0}); v != 1 || g != 1 {
		t.Errorf("the least order comes to %d and %d", v, g)
	}
	checkUnits(t, least)
}

// TestUnitsOfNoGroup asks far outside of the groups, ahead of them and behind.
func TestUnitsOfNoGroup(t *testing.T) {
	for _, r := range []impl.Request{soundRequest(), mixedRequest(), greatestRequest(), leastRequest()} {
		last := len(impl.GroupsOf(r)) - 1
		if len(impl.UnitsOf(r, 0)) == 0 || len(impl.UnitsOf(r, last)) == 0 {
			t.Errorf("the first or the last group of %v has no unit", r)
		}
		for _, k := range append(wildNumbers(), -2, -4, last+2, 12) {
			if k >= 0 && k <= last {
				continue
			}
			if got := impl.UnitsOf(r, k); len(got) != 0 {
				t.Errorf("UnitsOf %d = %v", k, got)
			}
		}
		if a, b := impl.UnitsOf(r, -1), impl.UnitsOf(r, last+1); len(a) != 0 || len(b) != 0 {
			t.Errorf("UnitsOf outside of %d groups = %v, %v", last+1, a, b)
		}
	}
}

func TestSumsOfPlaces(t *testing.T) {
	cases := []struct {
		name         string
		units        []int
		volume, gram int
	}{
		{"none", nil, 0, 0},
		{"an empty list", []int{}, 0, 0},
		{"the first", []int{0}, 39375, 400},
		{"the last", []int{5}, 12, 10},
		{"one below 0", []int{-1}, 0, 0},
		{"one behind the last", []int{6}, 0, 0},
		{"far outside", []int{math.MinInt64, math.MinInt64 + 1, -6, -5, 12, 1 << 32, 1<<32 + 1, -1 << 32, 1 << 62, math.MaxInt64}, 0, 0},
		{"twice", []int{2, 2}, 120, 40},
		{"twice, with others between", []int{0, 5, 0}, 78762, 810},
		{"not in order", []int{5, 2, 0}, 39447, 430},
		{"some that are there among others", []int{-1, 2, 6, 5, math.MaxInt64, 2, math.MinInt64}, 132, 50},
	}
	for _, c := range cases {
		r := soundRequest()
		if v, g := impl.VolumeOf(r, c.units), impl.GramOf(r, c.units); v != c.volume || g != c.gram {
			t.Errorf("%s: %d, %d, want %d, %d", c.name, v, g, c.volume, c.gram)
		}
		checkSums(t, r, c.units)
	}
	r := greatestRequest()
	for _, n := range wildNumbers() {
		for _, m := range append(wildNumbers(), 11, 12, -12) {
			checkSums(t, r, []int{n, 11, m, 0, n})
		}
	}
	checkSums(t, r, slices.Repeat([]int{11, -1, 0, 12}, 100000))
}

// TestUnitsAnyNumbers puts any number into each field of an order, and into two.
func TestUnitsAnyNumbers(t *testing.T) {
	first := soundRequest()
	fields := len(soundNumbers(&first))
	for i := range fields {
		for _, n := range append(wildNumbers(), 2, 3, 4, 5, 6, 7, 30, 900, 1000) {
			r := soundRequest()
			*soundNumbers(&r)[i] = n
			checkUnits(t, r)
			for k := range i {
				two := soundRequest()
				*soundNumbers(&two)[i], *soundNumbers(&two)[k] = n, 2
				checkUnits(t, two)
			}
		}
	}
}

// TestUnitsLongLists has lists that are far too long.
func TestUnitsLongLists(t *testing.T) {
	r := soundRequest()
	r.Pairs, r.Types, r.Items = slices.Repeat(r.Pairs, 10000), slices.Repeat(r.Types, 10000), slices.Repeat(r.Items, 10000)
	checkNoUnits(t, "long lists", r)
	r = soundRequest()
	r.Pairs = slices.Repeat(r.Pairs, 10000)
	checkNoUnits(t, "too many pairs", r)
}

// TestUnitsWritesNothing looks at the lists and at the spare room behind them.
func TestUnitsWritesNothing(t *testing.T) {
	r := soundRequest()
	r.Pairs = append(make([]impl.Pair, 0, 9), r.Pairs...)
	r.Types = append(make([]impl.Type, 0, 9), r.Types...)
	r.Items = append(make([]impl.Item, 0, 9), r.Items...)
	units := append(make([]int, 0, 9), 5, -1, 0, 5, 7)
	pairs, types, items, places := slices.Clone(r.Pairs[:9]), slices.Clone(r.Types[:9]), slices.Clone(r.Items[:9]), slices.Clone(units[:9])
	impl.Units(r)
	impl.Present(r)
	impl.GroupsOf(r)
	impl.UnitsOf(r, 0)
	impl.UnitsOf(r, 1)
	impl.VolumeOf(r, units)
	impl.GramOf(r, units)
	if !slices.Equal(pairs, r.Pairs[:9]) || !slices.Equal(types, r.Types[:9]) || !slices.Equal(items, r.Items[:9]) || !slices.Equal(places, units[:9]) {
		t.Error("an argument was written into")
	}
}

// spoil writes over a list and over all the room behind it.
func spoil(list []int) {
	for i := range list[:cap(list)] {
		list[:cap(list)][i] = -77
	}
}

// TestUnitsShareNothing writes over each answer, and looks at the other lists
// of it, at the order and at what is told of it then.
func TestUnitsShareNothing(t *testing.T) {
	r := mixedRequest()
	for _, list := range [][]int{impl.Units(r), impl.Present(r), impl.UnitsOf(r, 0), impl.UnitsOf(r, 1)} {
		spoil(list)
	}
	for i, want := range [][]int{{0, 2}, {1, 3}} {
		groups := impl.GroupsOf(r)
		spoil(groups[1-i])
		if !slices.Equal(groups[i], want) {
			t.Errorf("writing over group %d makes group %d %v", 1-i, i, groups[i])
		}
		groups[1-i] = append(groups[1-i], 1, 2, 3, 4, 5)
		clear(groups[:cap(groups)])
	}
	if !impl.RequestSame(r, mixedRequest()) {
		t.Error("an answer shares memory with the order")
	}
	checkUnits(t, r)
	if got := impl.Units(r); !slices.Equal(got, []int{0, 1, 1, 2, 2, 2, 3, 4, 4}) {
		t.Errorf("Units hangs on what became of an earlier answer: %v", got)
	}
}

// TestUnitsKeepNothing turns an order behind a call: what is told then is told
// of the order as it is.
func TestUnitsKeepNothing(t *testing.T) {
	r := soundRequest()
	checkUnits(t, r)
	r.Items[0].Count, r.Items[1].Class = 1, 1
	if got := impl.Units(r); !slices.Equal(got, []int{0, 1, 2, 2, 2}) {
		t.Errorf("Units = %v", got)
	}
	if a, b := impl.UnitsOf(r, 0), impl.UnitsOf(r, 1); !slices.Equal(a, []int{0}) || !slices.Equal(b, []int{1, 2, 3, 4}) {
		t.Errorf("UnitsOf = %v, %v", a, b)
	}
	checkUnits(t, r)
	checkUnits(t, greatestRequest())
	checkUnits(t, r)
}
