package tests

import (
	"math"
	"slices"
	"testing"

	"loop.example/g00489/impl"
)

// pairsOfBits has one table for each number below 2 to the power of kinds
// times kinds; the pairs stand in an order that is none of a table's own.
func pairsOfBits(bits int, kinds []int) []impl.Pair {
	pairs := []impl.Pair{}
	for i, a := range kinds {
		for k, b := range kinds {
			if bits>>(i*len(kinds)+k)&1 == 1 {
				pairs = append([]impl.Pair{{A: a, B: b}}, pairs...)
			}
		}
	}
	return pairs
}

// freeTable lets all four kinds lie beside themselves and beside all.
func freeTable() []impl.Pair { return pairsOfBits(1<<16-1, []int{0, 1, 2, 3}) }

func without(pairs []impl.Pair, gone ...impl.Pair) []impl.Pair {
	return slices.DeleteFunc(slices.Clone(pairs), func(p impl.Pair) bool { return slices.Contains(gone, p) })
}

// stands is Beside, written out once more.
func stands(pairs []impl.Pair, a int, b int) bool {
	for i := range pairs {
		if pairs[i].A == a && pairs[i].B == b {
			return true
		}
	}
	return false
}

func tableWanted(pairs []impl.Pair, classes int) bool {
	if classes < 1 || classes > 4 {
		return false
	}
	for a := range classes {
		for b := range classes {
			if a == b && !stands(pairs, a, a) || stands(pairs, a, b) && !stands(pairs, b, a) {
				return false
			}
		}
	}
	return true
}

func transitiveWanted(pairs []impl.Pair, list []int) bool {
	for _, a := range list {
		for _, b := range list {
			for _, c := range list {
				if stands(pairs, a, b) && stands(pairs, b, c) && !stands(pairs, a, c) {
					return false
				}
			}
		}
	}
	return true
}

func TestBeside(t *testing.T) {
	pairs := []impl.Pair{{A: 0, B: 1}, {A: 2, B: 2}, {A: 3, B: 0}, {A: 3, B: 0}, {A: -5, B: 9}, {A: math.MaxInt64, B: math.MinInt64}}
	cases := []struct {
		a, b int
		want bool
	}{
		{0, 1, true}, {1, 0, false}, {2, 2, true}, {3, 0, true}, {0, 3, false}, {0, 0, false}, {1, 1, false}, {2, 0, false}, {2, 1, false},
		{-5, 9, true}, {9, -5, false}, {-5, -5, false}, {9, 9, false}, {4, 4, false}, {-1, -1, false},
		{math.MaxInt64, math.MinInt64, true}, {math.MinInt64, math.MaxInt64, false}, {math.MinInt64, math.MinInt64, false},
		{1 << 32, 1<<32 + 1, false}, {1 << 62, 1, false}, {0, 1 + 1<<32, false},
	}
	for _, c := range cases {
		if got := impl.Beside(pairs, c.a, c.b); got != c.want {
			t.Errorf("Beside(%d, %d) = %v, want %v", c.a, c.b, got, c.want)
		}
	}
	if impl.Beside(nil, 0, 0) || impl.Beside([]impl.Pair{}, 0, 0) {
		t.Error("no pair stands in an empty list")
	}
}

// TestTableOkEachTable holds each table of four kinds against each number of
// classes, those that are refused among them.
func TestTableOkEachTable(t *testing.T) {
	for bits := range 1 << 16 {
		pairs := pairsOfBits(bits, []int{0, 1, 2, 3})
		for classes := -1; classes <= 6; classes++ {
			if got, want := impl.TableOk(pairs, classes), tableWanted(pairs, classes); got != want {
				t.Fatalf("TableOk(%v, %d) = %v, want %v", pairs, classes, got, want)
			}
		}
	}
}

func TestTableOkClasses(t *testing.T) {
	for classes := 1; classes <= 4; classes++ {
		if !impl.TableOk(freeTable(), classes) {
			t.Errorf("%d classes are refused", classes)
		}
	}
	for _, classes := range []int{0, 5, -1, -4, 1 << 32, 1<<32 + 1, 1 << 62, math.MaxInt64, math.MinInt64, math.MinInt64 + 1} {
		if impl.TableOk(freeTable(), classes) || impl.TableOk(nil, classes) {
			t.Errorf("%d classes are taken", classes)
		}
	}
}

func TestTableOkBothWays(t *testing.T) {
	for a := range 4 {
		for b := range 4 {
			pairs := without(freeTable(), impl.Pair{A: a, B: b})
			for classes := 1; classes <= 4; classes++ {
				if got, want := impl.TableOk(pairs, classes), a >= classes || b >= classes; got != want {
					t.Errorf("%d classes, without {%d, %d}: %v, want %v", classes, a, b, got, want)
				}
			}
			gone := without(pairs, impl.Pair{A: b, B: a})
			if got, want := impl.TableOk(gone, 4), a != b; got != want {
				t.Errorf("without {%d, %d} and {%d, %d}: %v, want %v", a, b, b, a, got, want)
			}
		}
	}
}

// TestTableOkOtherKinds lays pairs into a table that are none of its kinds:
// they make nothing right and nothing wrong.
func TestTableOkOtherKinds(t *testing.T) {
	others := []int{-1, -4, 2, 3, 4, 16, 1 << 32, 1<<32 + 1, 1 << 62, 1<<62 + 1, math.MaxInt64, math.MinInt64, math.MinInt64 + 1}
	right := []impl.Pair{{A: 0, B: 0}, {A: 1, B: 1}}
	wrong := []impl.Pair{{A: 0, B: 0}, {A: 1, B: 1}, {A: 1, B: 0}}
	for _, n := range others {
		for _, p := range []impl.Pair{{A: n, B: 0}, {A: 0, B: n}, {A: n, B: 1}, {A: 1, B: n}, {A: n, B: n}, {A: n, B: -n}} {
			if !impl.TableOk(append([]impl.Pair{p}, right...), 2) || !impl.TableOk(append(slices.Clone(right), p), 2) {
				t.Errorf("%v makes a right table wrong", p)
			}
			if impl.TableOk(append([]impl.Pair{p}, wrong...), 2) || impl.TableOk([]impl.Pair{{A: 0, B: 0}, p}, 2) || impl.TableOk([]impl.Pair{p}, 1) {
				t.Errorf("%v makes a wrong table right", p)
			}
		}
	}
}

func TestTableOkEmptyAndTwice(t *testing.T) {
	if impl.TableOk(nil, 1) || impl.TableOk([]impl.Pair{}, 1) {
		t.Error("no kind may lie beside itself where there are no pairs")
	}
	if !impl.TableOk(slices.Repeat(freeTable(), 3), 4) {
		t.Error("a pair that stands again is wrong")
	}
	if impl.TableOk([]impl.Pair{{A: 0, B: 0}, {A: 1, B: 1}, {A: 0, B: 1}, {A: 0, B: 1}}, 2) {
		t.Error("a pair that stands twice one way is taken for both ways")
	}
}

// TestTransitiveEachTable takes each table of three kinds, and each list of up
// to four of them; and the same with numbers that are none of a kind.
func TestTransitiveEachTable(t *testing.T) {
	for _, kinds := range [][]int{{0, 1, 2}, {3, 1, 4}, {-7, math.MaxInt64, math.MinInt64}, {0, 1 << 32, 1 << 62}} {
		for bits := range 1 << 9 {
			pairs := pairsOfBits(bits, kinds)
			var grow func(list []int)
			grow = func(list []int) {
				if got, want := impl.Transitive(pairs, list), transitiveWanted(pairs, list); got != want {
					t.Fatalf("Transitive(%v, %v) = %v, want %v", pairs, list, got, want)
				}
				if len(list) == 4 {
					return
				}
				for _, kind := range kinds {
					grow(append(slices.Clone(list), kind))
				}
			}
			grow(nil)
		}
	}
}

func TestTransitive(t *testing.T) {
	chain := []impl.Pair{{A: 0, B: 1}, {A: 1, B: 2}}
	cases := []struct {
		name  string
		pairs []impl.Pair
		list  []int
		want  bool
	}{
		{"no pairs, no list", nil, nil, true},
		{"no pairs", nil, []int{0, 1, 2}, true},
		{"no list", chain, []int{}, true},
		{"a chain", chain, []int{0, 1, 2}, false},
		{"a chain, otherwise ordered", chain, []int{2, 0, 1}, false},
		{"a chain that is closed", append(slices.Clone(chain), impl.Pair{A: 0, B: 2}), []int{0, 1, 2}, true},
		{"a chain that is closed the other way", append(slices.Clone(chain), impl.Pair{A: 2, B: 0}), []int{0, 1, 2}, false},
		{"a chain whose middle is not of the list", chain, []int{0, 2}, true},
		{"a chain whose last is not of the list", chain, []int{0, 1, 0, 1}, true},
		{"there and back, not beside itself", []impl.Pair{{A: 0, B: 1}, {A: 1, B: 0}}, []int{0, 1}, false},
		{"there and back", []impl.Pair{{A: 0, B: 1}, {A: 1, B: 0}, {A: 0, B: 0}, {A: 1, B: 1}}, []int{0, 1}, true},
		{"one by itself", []impl.Pair{{A: 3, B: 3}}, []int{3, 3, 3}, true},
		{"all beside all", freeTable(), []int{0, 1, 2, 3}, true},
		{"all but one way", without(freeTable(), impl.Pair{A: 3, B: 1}), []int{0, 1, 2, 3}, false},
		{"all but one way, not of the list", without(freeTable(), impl.Pair{A: 3, B: 1}), []int{0, 1, 2}, true},
	}
	for _, c := range cases {
		if got := impl.Transitive(c.pairs, c.list); got != c.want {
			t.Errorf("%s: %v, want %v", c.name, got, c.want)
		}
	}
}

// TestTransitiveLong has so many threes that going over all of them would not
// end in time.
func TestTransitiveLong(t *testing.T) {
	list := make([]int, 20000)
	for i := range list {
		list[i] = i
	}
	pairs := []impl.Pair{{A: 19997, B: 19998}, {A: 19998, B: 19999}}
	if impl.Transitive(pairs, list) || !impl.Transitive(append(pairs, impl.Pair{A: 19997, B: 19999}), list) {
		t.Error("a long list")
	}
	if !impl.Transitive(slices.Repeat(freeTable(), 500), slices.Repeat([]int{0, 1, 2, 3}, 500)) {
		t.Error("a list and pairs that stand again and again")
	}
}

// groupsFault tells what is not as the document has it, of groups of all the
// kinds that are given ascending and each once; it leaves one answer alone.
func groupsFault(pairs []impl.Pair, kinds []int, groups [][]int) string {
	all := slices.Concat(groups...)
	slices.Sort(all)
	if !slices.Equal(all, kinds) {
		return "not each kind once"
	}
	with := func(group []int, kind int) bool {
		for _, other := range group {
			if other < kind && !(stands(pairs, other, kind) && stands(pairs, kind, other)) {
				return false
			}
		}
		return true
	}
	for i, group := range groups {
		if len(group) == 0 || !slices.IsSorted(group) || i > 0 && groups[i-1][0] > group[0] {
			return "out of order"
		}
		for _, kind := range group {
			if !with(group, kind) {
				return "not all beside all"
			}
			for _, ahead := range groups[:i] {
				if with(ahead, kind) {
					return "not the first group"
				}
			}
		}
	}
	return ""
}

// TestGroupsEachTable is promise 3: whatever the table of four kinds is, in a
// group all may lie beside all.
func TestGroupsEachTable(t *testing.T) {
	for bits := range 1 << 16 {
		pairs := pairsOfBits(bits, []int{0, 1, 2, 3})
		groups := impl.Groups(pairs, []int{0, 1, 2, 3})
		if fault := groupsFault(pairs, []int{0, 1, 2, 3}, groups); fault != "" {
			t.Fatalf("Groups(%v) = %v: %s", pairs, groups, fault)
		}
	}
}

// TestGroupsEachPresent takes lists in any order, with doubles and with numbers
// that are no kinds, over some tables.
func TestGroupsEachPresent(t *testing.T) {
	numbers := []int{2, 0, 3, 1, -1, 4}
	for bits := 0; bits < 1<<16; bits += 1021 {
		pairs := append(pairsOfBits(bits, []int{0, 1, 2, 3}), impl.Pair{A: -1, B: -1}, impl.Pair{A: 4, B: 4}, impl.Pair{A: 0, B: 4}, impl.Pair{A: 4, B: 0})
		var grow func(present []int)
		grow = func(present []int) {
			kinds := slices.DeleteFunc(slices.Clone(present), func(n int) bool { return n < 0 || n > 3 })
			slices.Sort(kinds)
			kinds = slices.Compact(kinds)
			groups := impl.Groups(pairs, present)
			if fault := groupsFault(pairs, kinds, groups); fault != "" {
				t.Fatalf("Groups(%v, %v) = %v: %s", pairs, present, groups, fault)
			}
			if len(present) == 4 {
				return
			}
			for _, n := range numbers {
				grow(append(slices.Clone(present), n))
			}
		}
		grow(nil)
	}
}

func TestGroups(t *testing.T) {
	itself := []impl.Pair{{A: 0, B: 0}, {A: 1, B: 1}, {A: 2, B: 2}, {A: 3, B: 3}}
	both := func(a int, b int) []impl.Pair { return []impl.Pair{{A: a, B: b}, {A: b, B: a}} }
	cases := []struct {
		name    string
		pairs   []impl.Pair
		present []int
		want    [][]int
	}{
		{"none present", freeTable(), nil, nil},
		{"an empty list", freeTable(), []int{}, nil},
		{"no pairs", nil, []int{3, 1, 0}, [][]int{{0}, {1}, {3}}},
		{"all beside all", freeTable(), []int{0, 1, 2, 3}, [][]int{{0, 1, 2, 3}}},
		{"each by itself", itself, []int{0, 1, 2, 3}, [][]int{{0}, {1}, {2}, {3}}},
		{"not in order", freeTable(), []int{3, 0, 2}, [][]int{{0, 2, 3}}},
		{"twice", freeTable(), []int{2, 2, 0, 2, 0}, [][]int{{0, 2}}},
		{"twice, by themselves", itself, []int{2, 2, 0, 0}, [][]int{{0}, {2}}},
		{"one way up alone", append(slices.Clone(itself), impl.Pair{A: 0, B: 1}), []int{0, 1}, [][]int{{0}, {1}}},
		{"one way down alone", append(slices.Clone(itself), impl.Pair{A: 1, B: 0}), []int{0, 1}, [][]int{{0}, {1}}},
		{"both ways", append(slices.Clone(itself), both(0, 1)...), []int{0, 1}, [][]int{{0, 1}}},
		{"not beside itself", nil, []int{2, 2}, [][]int{{2}}},
		{"not beside itself, but beside another", both(1, 3), []int{3, 1}, [][]int{{1, 3}}},
		{"a chain", append(both(0, 2), both(1, 2)...), []int{0, 1, 2}, [][]int{{0, 2}, {1}}},
		{"the first of two that would do", append(append(both(0, 3), both(1, 3)...), both(0, 2)...), []int{0, 1, 2, 3}, [][]int{{0, 2}, {1, 3}}},
		{"behind all", append(both(0, 1), both(1, 2)...), []int{0, 1, 2}, [][]int{{0, 1}, {2}}},
		{"no kinds", freeTable(), []int{-1, 4, 5, math.MaxInt64, math.MinInt64, 1 << 32, 1<<32 + 1, -4}, nil},
		{"no kinds among others", freeTable(), []int{4, 3, -1, 0, 4}, [][]int{{0, 3}}},
		{"pairs of no kinds", []impl.Pair{{A: -1, B: 0}, {A: 0, B: -1}, {A: 1 << 32, B: 1}, {A: math.MaxInt64, B: math.MaxInt64}}, []int{1, 0}, [][]int{{0}, {1}}},
	}
	for _, c := range cases {
		if got := impl.Groups(c.pairs, c.present); !slices.EqualFunc(got, c.want, slices.Equal[[]int]) {
			t.Errorf("%s: %v, want %v", c.name, got, c.want)
		}
	}
}

func TestGroupOf(t *testing.T) {
	groups := [][]int{{0, 2}, {}, {1, 2}, nil, {-1, 7, math.MaxInt64}}
	cases := []struct {
		class, want int
	}{
		{0, 0}, {2, 0}, {1, 2}, {-1, 4}, {7, 4}, {math.MaxInt64, 4}, {3, -1}, {4, -1}, {-2, -1}, {math.MinInt64, -1}, {1 << 32, -1},
	}
	for _, c := range cases {
		if got := impl.GroupOf(groups, c.class); got != c.want {
			t.Errorf("GroupOf(%d) = %d, want %d", c.class, got, c.want)
		}
	}
	if impl.GroupOf(nil, 0) != -1 || impl.GroupOf([][]int{}, 0) != -1 || impl.GroupOf([][]int{nil, {}}, 0) != -1 {
		t.Error("an empty list has a class")
	}
}

// TestTableWritesNothing looks at the lists and at the spare room behind them.
func TestTableWritesNothing(t *testing.T) {
	pairs := append(make([]impl.Pair, 0, 30), freeTable()...)
	present := append(make([]int, 0, 30), 3, 1, -1, 1, 0, 9)
	groups := append(make([][]int, 0, 9), append(make([]int, 0, 9), 2, 0), []int{1})
	pairsWere, presentWas, groupWas := slices.Clone(pairs[:30]), slices.Clone(present[:30]), slices.Clone(groups[0][:9])
	impl.Beside(pairs, 1, 2)
	impl.TableOk(pairs, 4)
	impl.Transitive(pairs, present)
	impl.Groups(pairs, present)
	impl.GroupOf(groups, 1)
	if !slices.Equal(pairs[:30], pairsWere) || !slices.Equal(present[:30], presentWas) || !slices.Equal(groups[0][:9], groupWas) || groups[:9][2] != nil {
		t.Error("an argument was written into")
	}
}

// TestGroupsShareNothing writes into a group, and behind it, and looks at the
// others, at the arguments and at the next answer.
func TestGroupsShareNothing(t *testing.T) {
	pairs := without(freeTable(), impl.Pair{A: 0, B: 1}, impl.Pair{A: 2, B: 1})
	present := []int{0, 1, 2, 3}
	groups := impl.Groups(pairs, present)
	for i := range groups[0] {
		groups[0][i] = -5
	}
	groups[0] = append(groups[0], -6, -7, -8)
	if !slices.Equal(groups[1], []int{1}) || !slices.Equal(present, []int{0, 1, 2, 3}) {
		t.Error("a group shares memory with another one or with the argument")
	}
	groups[1] = append(groups[1], -9)
	again := impl.Groups(pairs, present)
	if !slices.EqualFunc(again, [][]int{{0, 2, 3}, {1}}, slices.Equal[[]int]) || !slices.Equal(groups[0], []int{-5, -5, -5, -6, -7, -8}) {
		t.Error("a later answer hangs on what became of an earlier one")
	}
}
