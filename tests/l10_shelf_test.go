package tests

import (
	"math"
	"slices"
	"testing"

	"loop.example/g00489/impl"
)

// The wanted answers are the chapter's words, written out once more: the bounds
// in numbers, the order by picking what is deepest, the shelves by cutting runs
// off that order.

func boxesWanted(p impl.Pallet, list []impl.Box) bool {
	for _, n := range []int{p.W, p.D, p.H} {
		if n < 1 || n > 2000 {
			return false
		}
	}
	if p.Gram < 1 || p.Gram > 100000 {
		return false
	}
	return !slices.ContainsFunc(list, func(x impl.Box) bool {
		return x.W < 1 || x.D < 1 || x.H < 1 || x.Gram < 1 || x.W > p.W || x.D > p.D || x.H > p.H || x.Gram > p.Gram
	})
}

func boxWanted(r impl.Request, x impl.Carton) impl.Box {
	box, there := typeWanted(r, x.Type)
	if classWanted(r) != 0 || !there {
		return impl.Box{}
	}
	_, gram := sumsWanted(r, x.Units)
	return impl.Box{W: box.W, D: box.D, H: box.H, Gram: box.Tare + gram}
}

// deepestWanted picks the deepest box that is left, of equal ones the first.
func deepestWanted(list []impl.Box) []int {
	left, order := placesTo(len(list)), []int{}
	for len(left) > 0 {
		deepest := slices.MaxFunc(left, func(a, b int) int { return list[a].D - list[b].D })
		order = append(order, deepest)
		left = slices.DeleteFunc(left, func(i int) bool { return i == deepest })
	}
	return order
}

// shelfOf is the shelf on which the boxes at those places are.
func shelfOf(list []impl.Box, places []int) impl.Shelf {
	s := impl.Shelf{List: slices.Clone(places)}
	for _, i := range places {
		s.W, s.Gram = s.W+list[i].W, s.Gram+list[i].Gram
		s.D, s.H = max(s.D, list[i].D), max(s.H, list[i].H)
	}
	return s
}

// shelvesWanted cuts off, again and again, the longest run that isn't over.
func shelvesWanted(p impl.Pallet, list []impl.Box) []impl.Shelf {
	if !boxesWanted(p, list) {
		return nil
	}
	shelves := []impl.Shelf{}
	for left := deepestWanted(list); len(left) > 0; {
		n := len(left)
		for s := shelfOf(list, left); s.W > p.W || s.Gram > p.Gram; s = shelfOf(list, left[:n]) {
			n--
		}
		shelves, left = append(shelves, shelfOf(list, left[:n])), left[n:]
	}
	return shelves
}

func depthWanted(list []impl.Shelf) int {
	depth := 0
	for _, s := range list {
		if s.D >= -1000000000 && s.D <= 1000000000 {
			depth += s.D
		}
	}
	return depth
}

func areaWanted(list []impl.Box) int {
	area := 0
	for _, x := range list {
		if x.W >= 0 && x.W <= 2000 && x.D >= 0 && x.D <= 2000 {
			area += x.W * x.D
		}
	}
	return area
}

func sameShelves(a []impl.Shelf, b []impl.Shelf) bool {
	return slices.EqualFunc(a, b, func(x impl.Shelf, y impl.Shelf) bool {
		return slices.Equal(x.List, y.List) && x.W == y.W && x.D == y.D && x.H == y.H && x.Gram == y.Gram
	})
}

// checkPromise10 holds the shelves against the boxes alone: none is wider or
// heavier than it may be, each tells what is on it, each box is on one, and none
// is on a shelf behind one that is the last and has room for it.
func checkPromise10(t *testing.T, p impl.Pallet, list []impl.Box, shelves []impl.Shelf) {
	t.Helper()
	together := []int{}
	for i, s := range shelves {
		if len(s.List) == 0 || s.W > p.W || s.Gram > p.Gram || s.D > p.D || s.H > p.H {
			t.Errorf("shelf %d, %v, is empty or over: %v %v", i, s, p, list)
		}
		if want := shelfOf(list, s.List); !sameShelves([]impl.Shelf{s}, []impl.Shelf{want}) {
			t.Errorf("shelf %d of %v %v tells %v, but has %v", i, p, list, s, want)
		}
		if i > 0 {
			first, ahead := list[s.List[0]], shelves[i-1]
			if ahead.W+first.W <= p.W && ahead.Gram+first.Gram <= p.Gram {
				t.Errorf("shelf %d of %v %v begins with %v, for which there is room on %v", i, p, list, first, ahead)
			}
		}
		together = append(together, s.List...)
	}
	for i := range together[:max(0, len(together)-1)] {
		a, b := together[i], together[i+1]
		if list[a].D < list[b].D || list[a].D == list[b].D && a > b {
			t.Errorf("the boxes of %v %v are not in order: %v", p, list, shelves)
		}
	}
	slices.Sort(together)
	if !slices.Equal(together, placesTo(len(list))) {
		t.Errorf("the shelves of %v %v have the boxes %v", p, list, together)
	}
}

// checkShelves asks for the shelves of boxes that are as they must be, and for
// all that is told of them.
func checkShelves(t *testing.T, p impl.Pallet, list []impl.Box) []impl.Shelf {
	t.Helper()
	if !impl.BoxesOk(p, list) || !boxesWanted(p, list) {
		t.Errorf("BoxesOk(%v, %v) = %v", p, list, impl.BoxesOk(p, list))
	}
	got := impl.Shelves(p, list)
	if want := shelvesWanted(p, list); !sameShelves(got, want) {
		t.Errorf("Shelves(%v, %v) = %v, want %v", p, list, got, want)
	}
	checkPromise10(t, p, list, got)
	checkDepth(t, got)
	checkArea(t, list)
	checkNotTooDeep(t, p, list, got)
	return got
}

func checkDepth(t *testing.T, list []impl.Shelf) {
	t.Helper()
	if got, want := impl.DepthOf(list), depthWanted(list); got != want {
		t.Errorf("DepthOf(%v) = %d, want %d", list, got, want)
	}
}

func checkArea(t *testing.T, list []impl.Box) {
	t.Helper()
	if got, want := impl.AreaOf(list), areaWanted(list); got != want {
		t.Errorf("AreaOf(%v) = %d, want %d", list, got, want)
	}
}

// checkNotTooDeep is what follows: where no weight ends a shelf, they are not
// deeper than twice what the area asks for, and the deepest box.
func checkNotTooDeep(t *testing.T, p impl.Pallet, list []impl.Box, shelves []impl.Shelf) {
	t.Helper()
	gram, deepest := 0, 0
	for _, x := range list {
		gram, deepest = gram+x.Gram, max(deepest, x.D)
	}
	if got, most := impl.DepthOf(shelves), deepest+2*impl.AreaOf(list)/p.W; gram <= p.Gram && got > most {
		t.Errorf("the shelves of %v %v are %d deep, at most %d", p, list, got, most)
	}
}

func checkNoShelves(t *testing.T, what string, p impl.Pallet, list []impl.Box) {
	t.Helper()
	if impl.BoxesOk(p, list) || boxesWanted(p, list) {
		t.Errorf("%s: BoxesOk of %v and %d boxes = %v", what, p, len(list), impl.BoxesOk(p, list))
	}
	if got := impl.Shelves(p, list); len(got) != 0 {
		t.Errorf("%s: Shelves = %v", what, got)
	}
}

func checkBox(t *testing.T, r impl.Request, x impl.Carton) {
	t.Helper()
	if got, want := impl.BoxOf(r, x), boxWanted(r, x); got != want {
		t.Errorf("BoxOf(%v, %v) = %v, want %v", r, x, got, want)
	}
}

// rowPallet has four numbers that are unlike, so that none may stand for
// another one.
func rowPallet() impl.Pallet { return impl.Pallet{W: 10, D: 8, H: 6, Gram: 20} }

// boxParts are the numbers of a box, with what they may be on rowPallet.
func boxParts() []numberPart[impl.Box] {
	return []numberPart[impl.Box]{
		{"W", 1, 10, func(x *impl.Box, n int) { x.W = n }},
		{"D", 1, 8, func(x *impl.Box, n int) { x.D = n }},
		{"H", 1, 6, func(x *impl.Box, n int) { x.H = n }},
		{"Gram", 1, 20, func(x *impl.Box, n int) { x.Gram = n }},
	}
}

func rightBox() impl.Box { return impl.Box{W: 3, D: 4, H: 2, Gram: 5} }

// boxes makes boxes of rows: W, D, H, Gram.
func boxes(rows ...[4]int) []impl.Box {
	list := []impl.Box{}
	for _, row := range rows {
		list = append(list, impl.Box{W: row[0], D: row[1], H: row[2], Gram: row[3]})
	}
	return list
}

func TestBoxesOkOfEachBox(t *testing.T) {
	ok := func(x impl.Box) bool { return impl.BoxesOk(rowPallet(), []impl.Box{x}) }
	checkBounds(t, "a box alone", rightBox, boxParts(), ok)
	for at := range 5 {
		among := func(x impl.Box) bool {
			list := slices.Repeat([]impl.Box{rightBox()}, 5)
			list[at] = x
			return impl.BoxesOk(rowPallet(), list)
		}
		checkBounds(t, "a box among others", rightBox, boxParts(), among)
	}
}

func TestBoxesOkOfThePallet(t *testing.T) {
	least := impl.Box{W: 1, D: 1, H: 1, Gram: 1}
	for _, list := range [][]impl.Box{nil, {}, {least}, {least, least}, slices.Repeat([]impl.Box{least}, 3000)} {
		checkBounds(t, "the pallet", rightPallet, palletParts(), func(p impl.Pallet) bool { return impl.BoxesOk(p, list) })
	}
	for _, p := range []impl.Pallet{{W: 1, D: 1, H: 1, Gram: 1}, {W: 2000, D: 2000, H: 2000, Gram: 100000}, rowPallet()} {
		as := impl.Box{W: p.W, D: p.D, H: p.H, Gram: p.Gram}
		checkShelves(t, p, []impl.Box{as})
		checkShelves(t, p, []impl.Box{as, as, as})
		for i, x := range []impl.Box{{W: p.W + 1, D: 1, H: 1, Gram: 1}, {W: 1, D: p.D + 1, H: 1, Gram: 1}, {W: 1, D: 1, H: p.H + 1, Gram: 1}, {W: 1, D: 1, H: 1, Gram: p.Gram + 1}} {
			checkNoShelves(t, "one more than the pallet's", p, []impl.Box{x})
			checkNoShelves(t, "one more behind others", p, append(slices.Repeat([]impl.Box{least}, i+1), x))
		}
	}
	if impl.BoxesOk(impl.Pallet{}, nil) || impl.BoxesOk(impl.Pallet{}, []impl.Box{{}}) || impl.BoxesOk(rowPallet(), []impl.Box{{}}) {
		t.Error("the zero pallet, or the zero box, is taken")
	}
}

func TestShelvesByHand(t *testing.T) {
	cases := []struct {
		name string
		list []impl.Box
		want []impl.Shelf
	}{
		{"no boxes", nil, nil},
		{"one", boxes([4]int{3, 4, 2, 5}), []impl.Shelf{{List: []int{0}, W: 3, D: 4, H: 2, Gram: 5}}},
		{"the least", boxes([4]int{1, 1, 1, 1}), []impl.Shelf{{List: []int{0}, W: 1, D: 1, H: 1, Gram: 1}}},
		{"the greatest", boxes([4]int{10, 8, 6, 20}), []impl.Shelf{{List: []int{0}, W: 10, D: 8, H: 6, Gram: 20}}},
		{"one shelf, the deepest is not the highest", boxes([4]int{2, 3, 6, 1}, [4]int{3, 7, 2, 4}, [4]int{1, 5, 1, 2}),
			[]impl.Shelf{{List: []int{1, 2, 0}, W: 6, D: 7, H: 6, Gram: 7}}},
		{"one shelf, the deepest is the highest", boxes([4]int{2, 3, 1, 1}, [4]int{3, 7, 4, 4}), []impl.Shelf{{List: []int{1, 0}, W: 5, D: 7, H: 4, Gram: 5}}},
		{"one shelf, the highest in the middle", boxes([4]int{1, 3, 1, 1}, [4]int{1, 7, 2, 1}, [4]int{1, 5, 6, 1}), []impl.Shelf{{List: []int{1, 2, 0}, W: 3, D: 7, H: 6, Gram: 3}}},
		{"several shelves", boxes([4]int{4, 2, 2, 1}, [4]int{5, 6, 1, 1}, [4]int{6, 4, 4, 1}, [4]int{3, 1, 6, 1}, [4]int{4, 5, 3, 1}),
			[]impl.Shelf{{List: []int{1, 4}, W: 9, D: 6, H: 3, Gram: 2}, {List: []int{2, 0}, W: 10, D: 4, H: 4, Gram: 2}, {List: []int{3}, W: 3, D: 1, H: 6, Gram: 1}}},
		{"each on one, by its width", boxes([4]int{6, 1, 1, 1}, [4]int{6, 3, 2, 1}, [4]int{6, 2, 3, 1}),
			[]impl.Shelf{{List: []int{1}, W: 6, D: 3, H: 2, Gram: 1}, {List: []int{2}, W: 6, D: 2, H: 3, Gram: 1}, {List: []int{0}, W: 6, D: 1, H: 1, Gram: 1}}},
		{"each on one, by its weight", boxes([4]int{1, 1, 1, 11}, [4]int{1, 3, 2, 12}, [4]int{1, 2, 3, 10}),
			[]impl.Shelf{{List: []int{1}, W: 1, D: 3, H: 2, Gram: 12}, {List: []int{2}, W: 1, D: 2, H: 3, Gram: 10}, {List: []int{0}, W: 1, D: 1, H: 1, Gram: 11}}},
		{"equal depths", boxes([4]int{1, 4, 1, 1}, [4]int{2, 4, 2, 2}, [4]int{3, 4, 3, 3}, [4]int{4, 4, 4, 4}),
			[]impl.Shelf{{List: []int{0, 1, 2, 3}, W: 10, D: 4, H: 4, Gram: 10}}},
		{"equal depths on two", boxes([4]int{4, 4, 4, 4}, [4]int{3, 4, 3, 3}, [4]int{4, 4, 2, 2}, [4]int{2, 4, 1, 1}),
			[]impl.Shelf{{List: []int{0, 1}, W: 7, D: 4, H: 4, Gram: 7}, {List: []int{2, 3}, W: 6, D: 4, H: 2, Gram: 3}}},
		{"equal depths between others", boxes([4]int{1, 2, 1, 1}, [4]int{1, 5, 1, 1}, [4]int{1, 2, 1, 2}, [4]int{1, 8, 1, 1}, [4]int{1, 5, 1, 2}, [4]int{1, 2, 1, 3}),
			[]impl.Shelf{{List: []int{3, 1, 4, 0, 2, 5}, W: 6, D: 8, H: 1, Gram: 10}}},
		{"width met", boxes([4]int{7, 4, 1, 1}, [4]int{3, 3, 1, 1}), []impl.Shelf{{List: []int{0, 1}, W: 10, D: 4, H: 1, Gram: 2}}},
		{"width passed by one", boxes([4]int{7, 4, 1, 1}, [4]int{4, 3, 1, 1}),
			[]impl.Shelf{{List: []int{0}, W: 7, D: 4, H: 1, Gram: 1}, {List: []int{1}, W: 4, D: 3, H: 1, Gram: 1}}},
		{"weight met", boxes([4]int{1, 4, 1, 13}, [4]int{1, 3, 1, 7}), []impl.Shelf{{List: []int{0, 1}, W: 2, D: 4, H: 1, Gram: 20}}},
		{"weight passed by one", boxes([4]int{1, 4, 1, 13}, [4]int{1, 3, 1, 8}),
			[]impl.Shelf{{List: []int{0}, W: 1, D: 4, H: 1, Gram: 13}, {List: []int{1}, W: 1, D: 3, H: 1, Gram: 8}}},
		{"both met", boxes([4]int{7, 4, 1, 13}, [4]int{3, 3, 1, 7}), []impl.Shelf{{List: []int{0, 1}, W: 10, D: 4, H: 1, Gram: 20}}},
		{"both passed by one", boxes([4]int{7, 4, 1, 13}, [4]int{4, 3, 1, 8}),
			[]impl.Shelf{{List: []int{0}, W: 7, D: 4, H: 1, Gram: 13}, {List: []int{1}, W: 4, D: 3, H: 1, Gram: 8}}},
		{"width met, weight passed", boxes([4]int{7, 4, 1, 13}, [4]int{3, 3, 1, 8}),
			[]impl.Shelf{{List: []int{0}, W: 7, D: 4, H: 1, Gram: 13}, {List: []int{1}, W: 3, D: 3, H: 1, Gram: 8}}},
		{"weight met, width passed", boxes([4]int{7, 4, 1, 13}, [4]int{4, 3, 1, 7}),
			[]impl.Shelf{{List: []int{0}, W: 7, D: 4, H: 1, Gram: 13}, {List: []int{1}, W: 4, D: 3, H: 1, Gram: 7}}},
		{"room on an earlier shelf alone, by width", boxes([4]int{4, 8, 1, 1}, [4]int{9, 7, 1, 1}, [4]int{6, 6, 1, 1}),
			[]impl.Shelf{{List: []int{0}, W: 4, D: 8, H: 1, Gram: 1}, {List: []int{1}, W: 9, D: 7, H: 1, Gram: 1}, {List: []int{2}, W: 6, D: 6, H: 1, Gram: 1}}},
		{"room on an earlier shelf alone, by weight", boxes([4]int{1, 8, 1, 5}, [4]int{1, 7, 1, 19}, [4]int{1, 6, 1, 3}, [4]int{1, 5, 1, 17}),
			[]impl.Shelf{{List: []int{0}, W: 1, D: 8, H: 1, Gram: 5}, {List: []int{1}, W: 1, D: 7, H: 1, Gram: 19}, {List: []int{2, 3}, W: 2, D: 6, H: 1, Gram: 20}}},
		{"room on an earlier shelf and on the last", boxes([4]int{4, 8, 1, 1}, [4]int{8, 7, 1, 1}, [4]int{2, 6, 1, 1}),
			[]impl.Shelf{{List: []int{0}, W: 4, D: 8, H: 1, Gram: 1}, {List: []int{1, 2}, W: 10, D: 7, H: 1, Gram: 2}}},
		{"depths are not together", boxes([4]int{10, 8, 1, 1}, [4]int{10, 8, 6, 1}),
			[]impl.Shelf{{List: []int{0}, W: 10, D: 8, H: 1, Gram: 1}, {List: []int{1}, W: 10, D: 8, H: 6, Gram: 1}}},
		{"heights are not together", boxes([4]int{1, 1, 6, 1}, [4]int{1, 1, 6, 1}, [4]int{1, 1, 5, 1}), []impl.Shelf{{List: []int{0, 1, 2}, W: 3, D: 1, H: 6, Gram: 3}}},
	}
	for _, c := range cases {
		if got := impl.Shelves(rowPallet(), c.list); !sameShelves(got, c.want) {
			t.Errorf("%s: Shelves = %v, want %v", c.name, got, c.want)
		}
		checkShelves(t, rowPallet(), c.list)
	}
}

// TestEqualDepths has boxes of few depths in each order there is of them: of
// equal ones the one that stood ahead stays ahead.
func TestEqualDepths(t *testing.T) {
	depths := []int{2, 2, 2, 5, 5}
	for n := range 5 * 5 * 5 * 5 * 5 {
		order := []int{n % 5, n / 5 % 5, n / 25 % 5, n / 125 % 5, n / 625}
		if !slices.Equal(slices.Sorted(slices.Values(order)), placesTo(5)) {
			continue
		}
		list := []impl.Box{}
		for _, i := range order {
			list = append(list, impl.Box{W: 1 + i, D: depths[i], H: 1 + i, Gram: 1})
		}
		want := []int{}
		for _, d := range []int{5, 2} {
			for place, x := range list {
				if x.D == d {
					want = append(want, place)
				}
			}
		}
		got := []int{}
		for _, s := range checkShelves(t, rowPallet(), list) {
			got = append(got, s.List...)
		}
		if !slices.Equal(got, want) {
			t.Errorf("the boxes of %v are told in the order %v, want %v", list, got, want)
		}
	}
	for n := range 40 {
		alike := slices.Repeat([]impl.Box{{W: 3, D: 4, H: 2, Gram: 5}}, n)
		for i, s := range checkShelves(t, rowPallet(), alike) {
			if s.List[0] != 3*i || len(s.List) != min(3, n-3*i) {
				t.Errorf("of %d boxes alike shelf %d is %v", n, i, s)
			}
		}
	}
}

// TestShelfIsMet has two boxes of each width and each weight: on one shelf, or
// on two.
func TestShelfIsMet(t *testing.T) {
	for w := range 10 {
		for x := range 10 {
			for g := range 20 {
				for h := range 20 {
					list := boxes([4]int{w + 1, 5, 1, g + 1}, [4]int{x + 1, 3, 2, h + 1})
					want := 2
					if w+x+2 <= 10 && g+h+2 <= 20 {
						want = 1
					}
					if got := impl.Shelves(rowPallet(), list); len(got) != want {
						t.Errorf("Shelves of %v = %v, want %d", list, got, want)
					}
				}
			}
		}
	}
	for n, want := range map[int]int{1: 1, 1999: 1, 2000: 1, 2001: 2, 4000: 2, 4001: 3} {
		list := slices.Repeat([]impl.Box{{W: 1, D: 1, H: 1, Gram: 1}}, n)
		if got := impl.Shelves(impl.Pallet{W: 2000, D: 1, H: 1, Gram: 100000}, list); len(got) != want {
			t.Errorf("%d of the least are on %d shelves of the widest, want %d", n, len(got), want)
		}
		if got := impl.Shelves(impl.Pallet{W: 2000, D: 1, H: 1, Gram: 2000}, list); len(got) != want {
			t.Errorf("%d of the least are on %d shelves, want %d", n, len(got), want)
		}
	}
	heavy := slices.Repeat([]impl.Box{{W: 1, D: 1, H: 1, Gram: 50000}}, 5)
	if got := checkShelves(t, impl.Pallet{W: 2000, D: 1, H: 1, Gram: 100000}, heavy); len(got) != 3 {
		t.Errorf("five of half the most are on %d shelves", len(got))
	}
	if got := checkShelves(t, impl.Pallet{W: 2000, D: 1, H: 1, Gram: 99999}, heavy); len(got) != 5 {
		t.Errorf("five of more than half the most are on %d shelves", len(got))
	}
}

// TestShelvesAreNotOver is promise 10: over each list of up to four boxes of few
// measures, and over many longer ones.
func TestShelvesAreNotOver(t *testing.T) {
	kinds := []impl.Box{}
	for n := range 12 {
		kinds = append(kinds, impl.Box{W: 1 + n%3, D: 1 + n/3%2, H: 1 + n%2, Gram: 1 + n/6})
	}
	for _, p := range []impl.Pallet{{W: 4, D: 2, H: 2, Gram: 100}, {W: 100, D: 2, H: 2, Gram: 3}, {W: 5, D: 2, H: 2, Gram: 4}} {
		for n := range 13 * 13 * 13 * 13 {
			list := []impl.Box{}
			for _, k := range []int{n % 13, n / 13 % 13, n / 169 % 13, n / 2197} {
				if k < 12 {
					list = append(list, kinds[k])
				}
			}
			if len(list) == 4 || n%13 == 12 {
				checkShelves(t, p, list)
			}
		}
	}
	seed := 10
	next := func(n int) int {
		seed = (seed*1103515245 + 12345) & (1<<31 - 1)
		return seed >> 12 % n
	}
	counts := map[int]int{}
	for n := range 4000 {
		p := impl.Pallet{W: 1 + next(20), D: 1 + next(20), H: 1 + next(20), Gram: 1 + next(40)}
		if n%2 == 0 {
			p.Gram = 100000
		}
		list := []impl.Box{}
		for range next(30) {
			list = append(list, impl.Box{W: 1 + next(p.W), D: 1 + next(p.D), H: 1 + next(p.H), Gram: 1 + next(min(p.Gram, 40))})
		}
		counts[min(len(checkShelves(t, p, list)), 6)]++
	}
	if len(counts) != 7 {
		t.Errorf("so many had so many shelves: %v", counts)
	}
}

// TestShelvesOfOrders has the boxes of what orders are packed into: nothing
// that is packed is wider, deeper, higher or heavier than its pallet.
func TestShelvesOfOrders(t *testing.T) {
	orders := []impl.Request{soundRequest(), mixedRequest(), greatestRequest(), leastRequest(), pricedRequest([3]int{5, 9, 3}, [2]int{6, 1}, [2]int{1, 10}, [2]int{2, 4})}
	for bits := range 64 {
		r := mixedRequest()
		r.Pairs, r.Types[1].Gram = soundTable(bits), 60+bits%20
		orders = append(orders, r)
	}
	for _, r := range orders {
		for _, way := range bothWays() {
			r.Way = way
			list := []impl.Box{}
			for _, x := range impl.CartonsOf(r) {
				checkBox(t, r, x)
				list = append(list, impl.BoxOf(r, x))
			}
			if len(list) == 0 {
				t.Errorf("no boxes of %v", r)
			}
			checkShelves(t, r.Pallet, list)
		}
	}
}

func TestBoxByHand(t *testing.T) {
	cases := []struct {
		name string
		box  impl.Carton
		want impl.Box
	}{
		{"one unit", impl.Carton{Type: 7, Units: []int{0}}, impl.Box{W: 40, D: 50, H: 30, Gram: 500}},
		{"several", impl.Carton{Type: 4, Units: []int{2, 5}}, impl.Box{W: 9, D: 7, H: 8, Gram: 33}},
		{"of the last type", impl.Carton{Type: 2, Group: 1, Units: []int{3}}, impl.Box{W: 10, D: 14, H: 12, Gram: 14}},
		{"more than it holds", impl.Carton{Type: 2, Units: []int{0, 1, 2}}, impl.Box{W: 10, D: 14, H: 12, Gram: 824}},
		{"a group that is none", impl.Carton{Type: 2, Group: math.MinInt64, Units: []int{2}}, impl.Box{W: 10, D: 14, H: 12, Gram: 24}},
		{"without units", impl.Carton{Type: 7}, impl.Box{W: 40, D: 50, H: 30, Gram: 100}},
		{"an empty list of units", impl.Carton{Type: 4, Units: []int{}}, impl.Box{W: 9, D: 7, H: 8, Gram: 3}},
		{"a unit twice", impl.Carton{Type: 4, Units: []int{2, 2}}, impl.Box{W: 9, D: 7, H: 8, Gram: 43}},
		{"places outside", impl.Carton{Type: 4, Units: []int{-1, 6, 2, math.MaxInt64, math.MinInt64}}, impl.Box{W: 9, D: 7, H: 8, Gram: 23}},
		{"a type that is not there", impl.Carton{Type: 3, Units: []int{0}}, impl.Box{}},
		{"a type of an item's Id", impl.Carton{Type: 1, Units: []int{0}}, impl.Box{}},
		{"type 0", impl.Carton{Units: []int{0}}, impl.Box{}},
		{"zero", impl.Carton{}, impl.Box{}},
		{"a type below 0", impl.Carton{Type: -7, Units: []int{0}}, impl.Box{}},
		{"a type far outside", impl.Carton{Type: math.MaxInt64, Units: []int{0}}, impl.Box{}},
		{"the other end", impl.Carton{Type: math.MinInt64, Units: []int{0}}, impl.Box{}},
	}
	for _, way := range bothWays() {
		for _, c := range cases {
			r := soundRequest()
			r.Way = way
			if got := impl.BoxOf(r, c.box); got != c.want {
				t.Errorf("%s: BoxOf = %v, want %v", c.name, got, c.want)
			}
			checkBox(t, r, c.box)
		}
	}
	r := soundRequest()
	r.Types[2].Id, r.Types[2].Tare = 0, 0
	if a, b := impl.BoxOf(r, impl.Carton{}), impl.BoxOf(r, impl.Carton{Units: []int{2}}); a != (impl.Box{W: 10, D: 14, H: 12}) || b != (impl.Box{W: 10, D: 14, H: 12, Gram: 20}) {
		t.Errorf("of a type whose Id and Tare are 0: %v, %v", a, b)
	}
	checkBox(t, greatestRequest(), impl.Carton{Type: 999, Units: placesTo(12)})
	checkBox(t, leastRequest(), impl.Carton{Units: placesTo(12)})
}

func checkZeroBox(t *testing.T, what string, r impl.Request) {
	t.Helper()
	for _, id := range []int{7, 4, 2, 0, 999, -1, math.MaxInt64, math.MinInt64} {
		for _, units := range [][]int{nil, {0}, {5, 0}, placesTo(12)} {
			if got := impl.BoxOf(r, impl.Carton{Type: id, Units: units}); got != (impl.Box{}) {
				t.Errorf("%s: BoxOf type %d and %v = %v", what, id, units, got)
			}
		}
	}
}

// TestBoxOfWrongOrders has each reason in several forms, among them a type that
// stands twice.
func TestBoxOfWrongOrders(t *testing.T) {
	seen := map[int]int{}
	for _, x := range wrongTurns() {
		r := soundRequest()
		x.turn(&r)
		checkZeroBox(t, x.name, r)
		seen[x.want]++
	}
	if len(seen) != 5 {
		t.Errorf("the reasons are %v", seen)
	}
	r := soundRequest()
	r.Types = append(r.Types, r.Types[2])
	checkZeroBox(t, "a type that stands twice", r)
	r = soundRequest()
	r.Types = append(r.Types, impl.Type{Id: 4, W: 1, H: 1, D: 1, Gram: 1})
	checkZeroBox(t, "an Id that stands twice", r)
	r = soundRequest()
	r.Pairs, r.Types, r.Items = slices.Repeat(r.Pairs, 10000), slices.Repeat(r.Types, 10000), slices.Repeat(r.Items, 10000)
	checkZeroBox(t, "long lists", r)
}

// TestBoxAnyNumbers puts any number into each field of an order and of a carton.
func TestBoxAnyNumbers(t *testing.T) {
	first := soundRequest()
	numbers := append(wildNumbers(), 2, 3, 4, 5, 6, 7, 8, 9, 10, 30, 900, 999, 1000)
	for i := range soundNumbers(&first) {
		for _, n := range numbers {
			r := soundRequest()
			*soundNumbers(&r)[i] = n
			for _, id := range []int{4, 7, 2, n} {
				checkBox(t, r, impl.Carton{Type: id, Group: n, Units: []int{n, 2, 3}})
			}
		}
	}
}

func TestDepthByHand(t *testing.T) {
	cases := []struct {
		name   string
		depths []int
		want   int
	}{
		{"none", nil, 0},
		{"one", []int{7}, 7},
		{"several", []int{7, 4, 4, 1}, 16},
		{"zero", []int{0, 0}, 0},
		{"below 0", []int{-5, 3, -2}, -4},
		{"the most that Sum takes", []int{1000000000, 1}, 1000000001},
		{"one more", []int{1000000001, 1}, 1},
		{"the least that Sum takes", []int{-1000000000, -1}, -1000000001},
		{"one less", []int{-1000000001, -1}, -1},
		{"both ends of Sum", []int{1000000000, -1000000000, 1000000000}, 1000000000},
		{"both ends of int", []int{math.MaxInt64, 5, math.MinInt64, math.MaxInt64}, 5},
		{"deeper than a pallet", []int{2000, 2000, 2001}, 6001},
		{"far outside between others", []int{2, 1 << 32, 3, -1 << 32, 4, 1 << 62}, 9},
	}
	for _, c := range cases {
		list := []impl.Shelf{}
		for i, d := range c.depths {
			list = append(list, impl.Shelf{List: placesTo(i), W: 50 + i, D: d, H: 90 - i, Gram: 1000})
		}
		if got := impl.DepthOf(list); got != c.want {
			t.Errorf("%s: DepthOf = %d, want %d", c.name, got, c.want)
		}
		checkDepth(t, list)
	}
	if got := impl.DepthOf([]impl.Shelf{}) + impl.DepthOf(make([]impl.Shelf, 3)); got != 0 {
		t.Errorf("DepthOf empty and zero shelves = %d", got)
	}
	for _, n := range wildNumbers() {
		for _, m := range wildNumbers() {
			checkDepth(t, []impl.Shelf{{D: n, W: m}, {D: m, H: n, Gram: m}, {D: 3, W: n}})
		}
	}
}

func TestAreaByHand(t *testing.T) {
	cases := []struct {
		name string
		list []impl.Box
		want int
	}{
		{"none", nil, 0},
		{"one", boxes([4]int{3, 4, 9, 9}), 12},
		{"several", boxes([4]int{3, 4, 1, 1}, [4]int{5, 6, 2, 2}, [4]int{3, 4, 1, 1}), 54},
		{"W 0", boxes([4]int{0, 4, 1, 1}, [4]int{2, 3, 1, 1}), 6},
		{"D 0", boxes([4]int{4, 0, 1, 1}, [4]int{2, 3, 1, 1}), 6},
		{"W below 0", boxes([4]int{-1, 4, 1, 1}, [4]int{2, 3, 1, 1}), 6},
		{"D below 0", boxes([4]int{4, -1, 1, 1}, [4]int{2, 3, 1, 1}), 6},
		{"both below 0", boxes([4]int{-4, -5, 1, 1}, [4]int{2, 3, 1, 1}), 6},
		{"both at most", boxes([4]int{2000, 2000, 1, 1}), 4000000},
		{"W at most", boxes([4]int{2000, 1, 1, 1}), 2000},
		{"D at most", boxes([4]int{1, 2000, 1, 1}), 2000},
		{"W one more", boxes([4]int{2001, 1, 1, 1}, [4]int{2, 3, 1, 1}), 6},
		{"D one more", boxes([4]int{1, 2001, 1, 1}, [4]int{2, 3, 1, 1}), 6},
		{"both one more", boxes([4]int{2001, 2001, 1, 1}), 0},
		{"W one more, D 0", boxes([4]int{2001, 0, 1, 1}), 0},
		{"H is not asked for", boxes([4]int{2, 3, 0, 1}, [4]int{2, 3, -1, 1}, [4]int{2, 3, 2001, 1}, [4]int{2, 3, math.MinInt64, 1}, [4]int{2, 3, math.MaxInt64, 1}), 30},
		{"Gram is not asked for", boxes([4]int{2, 3, 1, 0}, [4]int{2, 3, 1, -1}, [4]int{2, 3, 1, 100001}, [4]int{2, 3, 1, math.MinInt64}, [4]int{2, 3, 1, math.MaxInt64}), 30},
		{"the ends of int", boxes([4]int{math.MaxInt64, 1, 1, 1}, [4]int{1, math.MinInt64, 1, 1}, [4]int{math.MinInt64, math.MinInt64, 1, 1}, [4]int{1, 1, 1, 1}), 1},
		{"products that would go round", boxes([4]int{1 << 32, 1 << 32, 1, 1}, [4]int{1<<32 + 1, 1, 1, 1}, [4]int{1, 1, 1, 1}), 1},
	}
	for _, c := range cases {
		if got := impl.AreaOf(c.list); got != c.want {
			t.Errorf("%s: AreaOf = %d, want %d", c.name, got, c.want)
		}
		checkArea(t, c.list)
	}
	if got := impl.AreaOf([]impl.Box{}) + impl.AreaOf(make([]impl.Box, 3)); got != 0 {
		t.Errorf("AreaOf empty and zero boxes = %d", got)
	}
	for _, n := range append(wildNumbers(), 1999, 2000) {
		for _, m := range append(wildNumbers(), 1999, 2000) {
			checkArea(t, []impl.Box{{W: n, D: m, H: 1, Gram: 1}, {W: 2, D: 3, H: m, Gram: n}, {W: m, D: 2, H: 1, Gram: 1}})
		}
	}
}

// TestShelvesOfWrongBoxes has one box among many that isn't as it must be,
// wherever it stands, and one pallet that isn't.
func TestShelvesOfWrongBoxes(t *testing.T) {
	for _, part := range boxParts() {
		for _, n := range append(wildNumbers()[2:], 0, part.most+1, -part.most) {
			for at := range 12 {
				list := slices.Repeat([]impl.Box{rightBox()}, 12)
				part.set(&list[at], n)
				checkNoShelves(t, "a box with "+part.name, rowPallet(), list)
				checkNoShelves(t, "a box with "+part.name+" at the end", rowPallet(), list[:at+1])
				checkNoShelves(t, "a box with "+part.name+" alone", rowPallet(), list[at:at+1])
				checkArea(t, list)
			}
		}
	}
	for _, part := range palletParts() {
		for _, n := range append(wildNumbers()[2:], 0, part.most+1, -part.most) {
			if part.name == "Gram" && n == 2001 {
				continue
			}
			p := rowPallet()
			part.set(&p, n)
			for _, list := range [][]impl.Box{nil, {}, {rightBox()}, {{W: 1, D: 1, H: 1, Gram: 1}}, {{}}, slices.Repeat([]impl.Box{rightBox()}, 12)} {
				checkNoShelves(t, "a pallet with "+part.name, p, list)
			}
		}
	}
}

// TestShelvesAnyNumbers puts any two numbers into a box and a pallet.
func TestShelvesAnyNumbers(t *testing.T) {
	numbers := append(wildNumbers(), 2, 5, 6, 8, 10, 20, 21, 2000, 100000)
	for _, part := range boxParts() {
		for _, other := range palletParts() {
			for _, n := range numbers {
				for _, m := range numbers {
					p, list := rowPallet(), slices.Repeat([]impl.Box{rightBox()}, 4)
					part.set(&list[2], n)
					other.set(&p, m)
					if boxesWanted(p, list) {
						checkShelves(t, p, list)
					} else {
						checkNoShelves(t, "any numbers", p, list)
					}
				}
			}
		}
	}
}

// TestShelvesLongLists has lists far longer than those of an order.
func TestShelvesLongLists(t *testing.T) {
	p := impl.Pallet{W: 2000, D: 2000, H: 2000, Gram: 100000}
	list := slices.Repeat([]impl.Box{{W: 1, D: 7, H: 1, Gram: 1}, {W: 2000, D: 2000, H: 2000, Gram: 100000}}, 50000)
	got := impl.Shelves(p, list)
	if len(got) != 50025 || got[0].List[0] != 1 || got[50000].List[0] != 0 || len(got[50000].List) != 2000 || got[50024].List[1999] != 99998 {
		t.Errorf("of many boxes there are %d shelves", len(got))
	}
	if a, b := impl.DepthOf(got), impl.AreaOf(list); a != 100000175 || b != 200000350000 {
		t.Errorf("many shelves are %d deep, of %d area", a, b)
	}
	list[99999].H = 2001
	checkNoShelves(t, "the last of many", p, list)
	if got := impl.DepthOf(slices.Repeat([]impl.Shelf{{D: 1000000000}}, 100000)); got != 100000000000000 {
		t.Errorf("many deep shelves are %d deep", got)
	}
	r := soundRequest()
	if got := impl.BoxOf(r, impl.Carton{Type: 2, Units: slices.Repeat([]int{0, 5, -1, 6}, 100000)}); got != (impl.Box{W: 10, D: 14, H: 12, Gram: 41000004}) {
		t.Errorf("BoxOf a long content = %v", got)
	}
}

// TestShelvesWriteNothing looks at the lists and at the spare room behind them.
func TestShelvesWriteNothing(t *testing.T) {
	list := append(make([]impl.Box, 0, 9), boxes([4]int{4, 2, 2, 1}, [4]int{5, 6, 1, 1}, [4]int{6, 4, 4, 1}, [4]int{3, 1, 6, 1})...)
	room := list[:9]
	room[5] = impl.Box{W: 77}
	was := slices.Clone(room)
	shelves := append(make([]impl.Shelf, 0, 6), impl.Shelves(rowPallet(), list)...)
	places := slices.Clone(shelves[0].List)
	clone := slices.Clone(shelves[:6])
	r := soundRequest()
	units := append(make([]int, 0, 9), 5, 3, 2, 5)
	spare := slices.Clone(units[:9])
	types := slices.Clone(r.Types)
	impl.BoxesOk(rowPallet(), list)
	impl.Shelves(rowPallet(), list)
	impl.AreaOf(list)
	impl.DepthOf(shelves)
	impl.BoxOf(r, impl.Carton{Type: 7, Units: units})
	if !slices.Equal(was, room) || !sameShelves(clone, shelves[:6]) || !slices.Equal(places, shelves[0].List) {
		t.Error("an argument was written into")
	}
	if !slices.Equal(spare, units[:9]) || !slices.Equal(types, r.Types) {
		t.Error("the order or the carton was written into")
	}
}

// TestShelvesShareNothing writes over each shelf's list, and looks at the others
// and at what is told of the boxes then.
func TestShelvesShareNothing(t *testing.T) {
	list := slices.Repeat([]impl.Box{rightBox(), {W: 2, D: 6, H: 1, Gram: 1}, {W: 9, D: 3, H: 5, Gram: 2}}, 6)
	was := slices.Clone(list)
	want := impl.Shelves(rowPallet(), list)
	if len(want) < 5 {
		t.Fatalf("few shelves: %v", want)
	}
	for i := range want {
		got := impl.Shelves(rowPallet(), list)
		spoil(got[i].List)
		for j := range got {
			if j != i && !slices.Equal(got[j].List, want[j].List) {
				t.Errorf("writing over shelf %d makes shelf %d %v", i, j, got[j])
			}
		}
		clear(got[:cap(got)])
	}
	if got := impl.Shelves(rowPallet(), list); !sameShelves(got, want) || !slices.Equal(list, was) {
		t.Errorf("an answer shares memory: %v", got)
	}
}

// TestShelvesKeepNothing turns the boxes and the pallet behind a call: what is
// told then is told of them as they are.
func TestShelvesKeepNothing(t *testing.T) {
	p, list := rowPallet(), slices.Repeat([]impl.Box{rightBox()}, 5)
	if got := checkShelves(t, p, list); len(got) != 2 {
		t.Errorf("Shelves = %v", got)
	}
	list[3].D = 8
	if got := checkShelves(t, p, list); got[0].List[0] != 3 || got[0].D != 8 {
		t.Errorf("Shelves of a deeper box = %v", got)
	}
	p.Gram = 9
	if got := checkShelves(t, p, list); len(got) != 5 {
		t.Errorf("Shelves on a weaker pallet = %v", got)
	}
	r, x := soundRequest(), impl.Carton{Type: 4, Units: []int{2}}
	checkBox(t, r, x)
	r.Types[0].Tare, r.Types[0].D = 11, 3
	if got := impl.BoxOf(r, x); got != (impl.Box{W: 9, D: 3, H: 8, Gram: 31}) {
		t.Errorf("BoxOf in an order turned = %v", got)
	}
	checkShelves(t, rowPallet(), nil)
	checkShelves(t, p, list)
}
