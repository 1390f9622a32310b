package tests

import (
	"math"
	"slices"
	"testing"

	"loop.example/g00489/impl"
)

// The wanted answers are the chapter's words, written out once more over
// sumsWanted, which is that of the chapter ahead.

func masterWanted(r impl.Request) impl.Type {
	return r.Types[slices.IndexFunc(r.Types, func(x impl.Type) bool { return x.Id == r.Master })]
}

func roomWanted(r impl.Request, content []int, u int) bool {
	if classWanted(r) != 0 {
		return false
	}
	master := masterWanted(r)
	volume, gram := sumsWanted(r, append(slices.Clone(content), u))
	return volume <= master.W*master.H*master.D && gram <= master.Gram
}

// thereWanted are the units that are there, as they stand.
func thereWanted(r impl.Request, units []int) []int {
	count := len(unitsWanted(r))
	return slices.DeleteFunc(slices.Clone(units), func(u int) bool { return u < 0 || u >= count })
}

func nextWanted(r impl.Request, units []int) [][]int {
	cartons := [][]int{}
	for _, u := range thereWanted(r, units) {
		if last := len(cartons) - 1; last >= 0 && roomWanted(r, cartons[last], u) {
			cartons[last] = append(cartons[last], u)
		} else {
			cartons = append(cartons, []int{u})
		}
	}
	return cartons
}

func firstWanted(r impl.Request, units []int) [][]int {
	cartons, left := [][]int{}, thereWanted(r, units)
	for len(left) > 0 {
		greatest, most := 0, 0
		for i, u := range left {
			if volume, _ := sumsWanted(r, []int{u}); volume > most {
				greatest, most = i, volume
			}
		}
		u := left[greatest]
		left = slices.Delete(left, greatest, greatest+1)
		if i := slices.IndexFunc(cartons, func(c []int) bool { return roomWanted(r, c, u) }); i >= 0 {
			cartons[i] = append(cartons[i], u)
		} else {
			cartons = append(cartons, []int{u})
		}
	}
	return cartons
}

func holdsWanted(r impl.Request, content []int, box impl.Type) bool {
	places := unitsWanted(r)
	for _, u := range content {
		if u < 0 || u >= len(places) || !fitsWanted(r.Items[places[u]], box) {
			return false
		}
	}
	most := 0
	if min(box.W, box.H, box.D) >= 0 && max(box.W, box.H, box.D) <= 2000 {
		most = box.W * box.H * box.D
	}
	volume, gram := sumsWanted(r, content)
	return classWanted(r) == 0 && volume <= most && gram <= box.Gram
}

// checkPromise7 holds a packing against no other one: each unit that is there
// is in it as often as it stands, and no carton is empty or over.
func checkPromise7(t *testing.T, r impl.Request, units []int, cartons [][]int) {
	t.Helper()
	together, there := slices.Concat(cartons...), thereWanted(r, units)
	slices.Sort(together)
	slices.Sort(there)
	if !slices.Equal(together, there) {
		t.Errorf("the cartons of %v have the units %v, want %v", r, together, there)
	}
	for i, c := range cartons {
		volume, gram := sumsWanted(r, c)
		if master := masterWanted(r); len(c) == 0 || volume > master.W*master.H*master.D || gram > master.Gram {
			t.Errorf("carton %d of %v, %v, comes to %d and %d", i, r, c, volume, gram)
		}
		if !impl.Holds(r, c, masterWanted(r)) {
			t.Errorf("the master carton of %v doesn't hold carton %d, %v", r, i, c)
		}
	}
}

func checkPack(t *testing.T, r impl.Request, units []int) {
	t.Helper()
	next, first := impl.NextFit(r, units), impl.FirstFit(r, units)
	if want := nextWanted(r, units); !sameLists(next, want) {
		t.Errorf("NextFit(%v, %v) = %v, want %v", r, units, next, want)
	}
	if want := firstWanted(r, units); !sameLists(first, want) {
		t.Errorf("FirstFit(%v, %v) = %v, want %v", r, units, first, want)
	}
	checkPromise7(t, r, units, next)
	checkPromise7(t, r, units, first)
	want := first
	if r.Way == 1 {
		want = next
	}
	if got := impl.PackWay(r, units); !sameLists(got, want) {
		t.Errorf("PackWay(%v, %v) = %v, want %v", r, units, got, want)
	}
}

func checkRoom(t *testing.T, r impl.Request, content []int, u int) {
	t.Helper()
	if got, want := impl.Room(r, content, u), roomWanted(r, content, u); got != want {
		t.Errorf("Room(%v, %v, %d) = %v, want %v", r, content, u, got, want)
	}
}

func checkHolds(t *testing.T, r impl.Request, content []int, box impl.Type) {
	t.Helper()
	if got, want := impl.Holds(r, content, box), holdsWanted(r, content, box); got != want {
		t.Errorf("Holds(%v, %v, %v) = %v, want %v", r, content, box, got, want)
	}
}

func bothWays() []int { return []int{impl.WyFirst, impl.WyNext} }

// rowRequest has a unit of each size (volume and weight), in a master carton
// of volume 10 that may hold 10; the types beside it are smaller and lighter.
func rowRequest(sizes ...[2]int) impl.Request {
	r := impl.Request{
		Pallet: impl.Pallet{W: 10, D: 10, H: 10, Gram: 100}, Classes: 1, Pairs: []impl.Pair{{}}, Master: 7,
		Types: []impl.Type{{Id: 4, W: 1, H: 1, D: 6, Gram: 7}, {Id: 7, W: 10, H: 1, D: 1, Tare: 3, Gram: 10}, {Id: 2, W: 1, H: 2, D: 2, Gram: 4}},
	}
	for i, x := range sizes {
		r.Items = append(r.Items, impl.Item{Id: 50 - i, W: 1, H: x[0], D: 1, Gram: x[1], Count: 1})
	}
	return r
}

func TestPackByHand(t *testing.T) {
	cases := []struct {
		name        string
		sizes       [][2]int
		units       []int
		next, first [][]int
	}{
		{"by volume", [][2]int{{6, 1}, {3, 1}, {5, 1}, {4, 1}, {2, 1}}, placesTo(5), [][]int{{0, 1}, {2, 3}, {4}}, [][]int{{0, 3}, {2, 1, 4}}},
		{"by weight", [][2]int{{1, 6}, {1, 3}, {1, 5}, {1, 4}, {1, 2}}, placesTo(5), [][]int{{0, 1}, {2, 3}, {4}}, [][]int{{0, 1}, {2, 3}, {4}}},
		{"small but heavy ones last", [][2]int{{1, 9}, {4, 1}, {3, 1}, {2, 9}}, placesTo(4), [][]int{{0, 1}, {2, 3}}, [][]int{{1, 2}, {3}, {0}}},
		{"first isn't best", [][2]int{{8, 1}, {7, 1}, {3, 1}, {2, 1}}, placesTo(4), [][]int{{0}, {1, 2}, {3}}, [][]int{{0, 3}, {1, 2}}},
		{"next looks at the last alone", [][2]int{{6, 1}, {7, 1}, {4, 1}, {4, 1}}, placesTo(4), [][]int{{0}, {1}, {2, 3}}, [][]int{{1}, {0, 2}, {3}}},
		{"all in one", [][2]int{{5, 5}, {3, 2}, {2, 3}}, placesTo(3), [][]int{{0, 1, 2}}, [][]int{{0, 1, 2}}},
		{"each alone", [][2]int{{10, 1}, {1, 10}, {10, 10}}, placesTo(3), [][]int{{0}, {1}, {2}}, [][]int{{0}, {2}, {1}}},
		{"not in order", [][2]int{{6, 1}, {3, 1}, {5, 1}, {4, 1}, {2, 1}}, []int{4, 1, 3, 0, 2}, [][]int{{4, 1, 3}, {0}, {2}}, [][]int{{0, 3}, {2, 1, 4}}},
		{"some of them", [][2]int{{6, 1}, {3, 1}, {5, 1}, {4, 1}, {2, 1}}, []int{2, 0, 4}, [][]int{{2}, {0, 4}}, [][]int{{0, 4}, {2}}},
	}
	for _, c := range cases {
		for _, way := range bothWays() {
			r := rowRequest(c.sizes...)
			r.Way = way
			if got := impl.NextFit(r, c.units); !sameLists(got, c.next) {
				t.Errorf("%s: NextFit = %v, want %v", c.name, got, c.next)
			}
			if got := impl.FirstFit(r, c.units); !sameLists(got, c.first) {
				t.Errorf("%s: FirstFit = %v, want %v", c.name, got, c.first)
			}
			if got, want := impl.PackWay(r, c.units), [][][]int{c.first, c.next}[way]; !sameLists(got, want) {
				t.Errorf("%s: PackWay %d = %v, want %v", c.name, way, got, want)
			}
			checkPack(t, r, c.units)
		}
	}
}

// TestPackVolumeAndWeight meets volume and weight exactly, and passes each by
// one, with two units and with three.
func TestPackVolumeAndWeight(t *testing.T) {
	cases := []struct {
		name  string
		sizes [][2]int
		room  bool
	}{
		{"volume met", [][2]int{{6, 1}, {4, 1}}, true},
		{"volume passed", [][2]int{{6, 1}, {5, 1}}, false},
		{"weight met", [][2]int{{1, 6}, {1, 4}}, true},
		{"weight passed", [][2]int{{1, 6}, {1, 5}}, false},
		{"both met", [][2]int{{6, 4}, {4, 6}}, true},
		{"both missed by one", [][2]int{{6, 4}, {3, 5}}, true},
		{"volume met, weight passed", [][2]int{{6, 6}, {4, 5}}, false},
		{"weight met, volume passed", [][2]int{{6, 6}, {5, 4}}, false},
		{"both passed", [][2]int{{6, 6}, {5, 5}}, false},
		{"three that meet both", [][2]int{{5, 2}, {3, 2}, {2, 6}}, true},
		{"three that pass the volume", [][2]int{{5, 2}, {3, 2}, {3, 2}}, false},
		{"three that pass the weight", [][2]int{{5, 2}, {3, 2}, {2, 7}}, false},
	}
	for _, c := range cases {
		r := rowRequest(c.sizes...)
		units := placesTo(len(c.sizes))
		last := len(units) - 1
		if got := impl.Room(r, units[:last], last); got != c.room {
			t.Errorf("%s: Room = %v", c.name, got)
		}
		if got := impl.Holds(r, units, r.Types[1]); got != c.room {
			t.Errorf("%s: Holds = %v", c.name, got)
		}
		if a, b := impl.NextFit(r, units), impl.FirstFit(r, units); (len(a) == 1) != c.room || (len(b) == 1) != c.room {
			t.Errorf("%s: NextFit = %v, FirstFit = %v", c.name, a, b)
		}
		checkPack(t, r, units)
	}
}

// TestPackGreatest has cartons of the greatest volume that there is: one unit
// fills it, and the half of one passes it beside another.
func TestPackGreatest(t *testing.T) {
	r := greatestRequest()
	if a, b := impl.NextFit(r, placesTo(12)), impl.FirstFit(r, placesTo(12)); len(a) != 12 || len(b) != 12 {
		t.Errorf("the greatest units are in %v and %v", a, b)
	}
	checkPack(t, r, placesTo(12))
	for i := range r.Items {
		r.Items[i].W, r.Items[i].Gram = 1000, 50000
	}
	if a, b := impl.NextFit(r, placesTo(12)), impl.FirstFit(r, placesTo(12)); len(a) != 6 || len(b) != 6 {
		t.Errorf("halves are in %v and %v", a, b)
	}
	checkPack(t, r, placesTo(12))
	r.Items[3].W = 1001
	checkPack(t, r, placesTo(12))
	least := leastRequest()
	if a, b := impl.NextFit(least, []int{0}), impl.FirstFit(least, []int{0}); !sameLists(a, [][]int{{0}}) || !sameLists(b, [][]int{{0}}) {
		t.Errorf("the least unit is in %v and %v", a, b)
	}
	checkPack(t, least, []int{0, 0})
}

// TestFirstFitEqualVolumes has units of one volume, in one item and in several,
// whose sides and weights are not the same: they are packed as they stand.
func TestFirstFitEqualVolumes(t *testing.T) {
	r := rowRequest([2]int{4, 1}, [2]int{4, 2}, [2]int{4, 3}, [2]int{4, 4}, [2]int{4, 5})
	r.Items[1].W, r.Items[1].H = 4, 1
	r.Types[1] = impl.Type{Id: 7, W: 10, H: 10, D: 1, Tare: 3, Gram: 90}
	r.Items[2].W, r.Items[2].H = 2, 2
	for _, units := range [][]int{{0, 1, 2, 3, 4}, {4, 3, 2, 1, 0}, {2, 4, 0, 3, 1}, {1, 1, 0, 1}} {
		if got := impl.FirstFit(r, units); !sameLists(got, [][]int{units}) {
			t.Errorf("FirstFit %v = %v", units, got)
		}
		checkPack(t, r, units)
	}
	r = rowRequest([2]int{5, 1}, [2]int{5, 1}, [2]int{5, 9}, [2]int{5, 1}, [2]int{6, 1})
	for _, c := range []struct {
		units []int
		want  [][]int
	}{
		{[]int{0, 1, 2, 3}, [][]int{{0, 1}, {2, 3}}},
		{[]int{3, 2, 1, 0}, [][]int{{3, 2}, {1, 0}}},
		{[]int{2, 3, 1, 0}, [][]int{{2, 3}, {1, 0}}},
		{[]int{3, 4, 0, 1}, [][]int{{4}, {3, 0}, {1}}},
		{[]int{1, 0, 4, 3}, [][]int{{4}, {1, 0}, {3}}},
	} {
		if got := impl.FirstFit(r, c.units); !sameLists(got, c.want) {
			t.Errorf("FirstFit %v = %v, want %v", c.units, got, c.want)
		}
		checkPack(t, r, c.units)
	}
	r.Items = []impl.Item{{Id: 1, W: 3, H: 1, D: 1, Gram: 1, Count: 6}, {Id: 2, W: 1, H: 3, D: 1, Gram: 1, Count: 6}}
	if got := impl.FirstFit(r, placesTo(12)); !sameLists(got, [][]int{{0, 1, 2}, {3, 4, 5}, {6, 7, 8}, {9, 10, 11}}) {
		t.Errorf("FirstFit of twelve of one volume = %v", got)
	}
	checkPack(t, r, placesTo(12))
	down := placesTo(12)
	slices.Reverse(down)
	checkPack(t, r, down)
}

func TestPackTwiceAndThrice(t *testing.T) {
	r := rowRequest([2]int{6, 1}, [2]int{5, 1}, [2]int{3, 4})
	cases := []struct {
		units       []int
		next, first [][]int
	}{
		{[]int{0, 0}, [][]int{{0}, {0}}, [][]int{{0}, {0}}},
		{[]int{1, 1}, [][]int{{1, 1}}, [][]int{{1, 1}}},
		{[]int{1, 1, 1}, [][]int{{1, 1}, {1}}, [][]int{{1, 1}, {1}}},
		{[]int{2, 2, 2}, [][]int{{2, 2}, {2}}, [][]int{{2, 2}, {2}}},
		{[]int{2, 0, 2}, [][]int{{2, 0}, {2}}, [][]int{{0, 2}, {2}}},
		{[]int{2, 0, 1, 0, 2, 0, 2}, [][]int{{2, 0}, {1}, {0, 2}, {0, 2}}, [][]int{{0, 2}, {0, 2}, {0, 2}, {1}}},
		{[]int{2, 1, 2, 1, 2}, [][]int{{2, 1}, {2, 1}, {2}}, [][]int{{1, 1}, {2, 2}, {2}}},
	}
	for _, c := range cases {
		if got := impl.NextFit(r, c.units); !sameLists(got, c.next) {
			t.Errorf("NextFit %v = %v, want %v", c.units, got, c.next)
		}
		if got := impl.FirstFit(r, c.units); !sameLists(got, c.first) {
			t.Errorf("FirstFit %v = %v, want %v", c.units, got, c.first)
		}
		checkPack(t, r, c.units)
	}
	if !impl.Room(r, []int{1}, 1) || impl.Room(r, []int{1, 1}, 1) || impl.Room(r, []int{0}, 0) || impl.Room(r, []int{2, 2}, 2) {
		t.Error("Room of a unit that stands twice")
	}
	if !impl.Holds(r, []int{1, 1}, r.Types[1]) || impl.Holds(r, []int{0, 0}, r.Types[1]) || impl.Holds(r, []int{2, 2, 2}, r.Types[1]) {
		t.Error("Holds of a unit that stands twice")
	}
}

func TestPackNoUnits(t *testing.T) {
	empty := rowRequest()
	for _, r := range []impl.Request{soundRequest(), rowRequest([2]int{1, 1}), greatestRequest(), empty} {
		for _, way := range bothWays() {
			r.Way = way
			for _, units := range [][]int{nil, {}, placesTo(3)[:0], {-1}, {12, -12, 13}} {
				if a, b, c := impl.NextFit(r, units), impl.FirstFit(r, units), impl.PackWay(r, units); len(a) != 0 || len(b) != 0 || len(c) != 0 {
					t.Errorf("of %v: %v, %v, %v", units, a, b, c)
				}
			}
		}
		for _, x := range r.Types {
			if !impl.Holds(r, nil, x) || !impl.Holds(r, []int{}, x) {
				t.Errorf("%v doesn't hold nothing", x)
			}
		}
		if !impl.Room(r, nil, 0) || !impl.Room(r, []int{}, 0) {
			t.Error("no room in an empty carton")
		}
	}
	if a, b := impl.NextFit(empty, []int{0, 1}), impl.FirstFit(empty, []int{0, 1}); len(a) != 0 || len(b) != 0 {
		t.Errorf("an order without items is packed as %v and %v", a, b)
	}
	if impl.Holds(empty, []int{0}, empty.Types[1]) {
		t.Error("a unit of an order without items is held")
	}
}

// TestPackPlacesOutside has places that are not there: left out by the ways,
// nothing for Room, and not held.
func TestPackPlacesOutside(t *testing.T) {
	r := rowRequest([2]int{6, 1}, [2]int{3, 1}, [2]int{5, 1})
	outside := append(wildNumbers()[2:], -3, 3, 4, 12)
	for _, n := range outside {
		for _, units := range [][]int{{n, 0, 1, 2}, {0, n, n, 1, 2, n}, {0, 1, 2, n}} {
			if a, b := impl.NextFit(r, units), impl.FirstFit(r, units); !sameLists(a, [][]int{{0, 1}, {2}}) || !sameLists(b, [][]int{{0, 1}, {2}}) {
				t.Errorf("%v: NextFit = %v, FirstFit = %v", units, a, b)
			}
			checkPack(t, r, units)
			if impl.Holds(r, units, impl.Type{W: 100, H: 100, D: 100, Gram: 1000}) {
				t.Errorf("%v is held", units)
			}
		}
		if !impl.Room(r, []int{n, 0, n}, 1) || impl.Room(r, []int{n, 0}, 2) || !impl.Room(r, []int{0, 1}, n) || !impl.Room(r, nil, n) || !impl.Room(r, []int{n}, n) {
			t.Errorf("Room with place %d", n)
		}
		if impl.Holds(r, []int{n}, r.Types[1]) {
			t.Errorf("place %d is held", n)
		}
	}
	checkPack(t, r, slices.Concat(outside, []int{2, 1, 0}, outside))
}

// TestRoomContentOver has contents that are over already, by volume and by
// weight, where there is no room even for what is not there.
func TestRoomContentOver(t *testing.T) {
	r := rowRequest([2]int{6, 1}, [2]int{5, 1}, [2]int{1, 6}, [2]int{1, 5}, [2]int{4, 4})
	for _, content := range [][]int{{0, 1}, {2, 3}, {0, 0, 0}, {3, 2, 1}, {0, 1, -1, 7}} {
		for u := -1; u <= 5; u++ {
			if impl.Room(r, content, u) {
				t.Errorf("room for %d in %v", u, content)
			}
			checkRoom(t, r, content, u)
		}
		if impl.Holds(r, content, r.Types[1]) {
			t.Errorf("%v is held", content)
		}
	}
	for _, content := range [][]int{{0, 4}, {2, 4}} {
		for u := range 5 {
			if impl.Room(r, content, u) {
				t.Errorf("room for %d in %v, which is full", u, content)
			}
		}
		if !impl.Room(r, content, -1) || !impl.Room(r, content, 5) {
			t.Errorf("no room in %v for what is not there", content)
		}
	}
	checkRoom(t, r, slices.Repeat([]int{0}, 100000), 1)
}

// TestRoomIsTheMasters has types beside the master that hold more and less: it
// is the master carton's volume and weight that counts, wherever it stands.
func TestRoomIsTheMasters(t *testing.T) {
	for _, master := range []int{4, 7, 2} {
		r := rowRequest([2]int{3, 1}, [2]int{1, 3}, [2]int{2, 2}, [2]int{1, 1})
		for i := range r.Items {
			r.Items[i].W, r.Items[i].H = 1, 1
			r.Items[i].D = 1 + i%2
		}
		r.Master = master
		if impl.Class(r) != impl.ClNone {
			t.Fatalf("master %d: %d", master, impl.Class(r))
		}
		for n := range 4 * 4 * 4 * 4 {
			content := []int{n & 3, n >> 2 & 3, n >> 4 & 3, n >> 6 & 3}
			for u := range 4 {
				checkRoom(t, r, content[:n%5], u)
			}
			checkPack(t, r, append(content, placesTo(4)...))
		}
	}
}

func TestHolds(t *testing.T) {
	r := soundRequest()
	box := func(w int, h int, d int, gram int) impl.Type {
		return impl.Type{Id: 600, W: w, H: h, D: d, Gram: gram}
	}
	cases := []struct {
		name    string
		content []int
		box     impl.Type
		want    bool
	}{
		{"its own type", []int{0}, r.Types[1], true},
		{"two in the master", []int{0, 2, 3}, r.Types[1], true},
		{"two too great ones", []int{0, 1}, r.Types[1], false},
		{"small ones in a small type", []int{2, 3, 4, 5}, r.Types[0], true},
		{"a great one in a small type", []int{0}, r.Types[2], false},
		{"a great one behind small ones", []int{2, 3, 0}, r.Types[2], false},
		{"a type that is not there", []int{2, 3}, box(6, 5, 4, 30), true},
		{"the unit alone, turned", []int{2}, box(5, 3, 4, 20), true},
		{"volume met", []int{2, 3}, box(6, 4, 3, 30), true},
		{"volume passed by one", []int{3, 4, 5}, box(7, 5, 1, 30), false},
		{"volume met by three", []int{3, 4, 5}, box(6, 6, 1, 30), true},
		{"weight met", []int{2, 3}, box(9, 9, 9, 30), true},
		{"weight passed by one", []int{2, 3}, box(9, 9, 9, 29), false},
		{"fits by volume and weight, one side too long", []int{2}, box(4, 4, 4, 900), false},
		{"long, and flat", []int{2}, box(2, 100, 100, 900), false},
		{"the one behind has too long a side", []int{2, 3}, box(5, 5, 5, 900), false},
		{"too heavy for its carton", []int{2}, box(9, 9, 9, 19), false},
		{"the longest side there is", []int{2}, box(2000, 4, 3, 20), true},
		{"a side passed", []int{2}, box(2001, 4, 3, 20), false},
		{"a side far too long", []int{2}, box(math.MaxInt64, 2000, 2000, 900), false},
		{"a side below 0", []int{2}, box(-5, 2000, 2000, 900), false},
		{"two sides below 0", []int{2}, box(-5, -4, 2000, 900), false},
		{"a side of nothing", []int{2}, box(0, 2000, 2000, 900), false},
		{"nothing in nothing", nil, impl.Type{}, true},
		{"nothing in sides below 0", []int{}, box(-1, -1, -1, 0), true},
		{"nothing in sides passed", nil, box(2001, 2001, 2001, 0), true},
		{"nothing, where less than nothing may be held", nil, box(9, 9, 9, -1), false},
		{"a unit, where less than nothing may be held", []int{2}, box(9, 9, 9, math.MinInt64), false},
	}
	for _, c := range cases {
		if got := impl.Holds(r, c.content, c.box); got != c.want {
			t.Errorf("%s: Holds = %v", c.name, got)
		}
		checkHolds(t, r, c.content, c.box)
	}
}

// TestHoldsAnyNumbers puts any number into each field of a type, and into two.
func TestHoldsAnyNumbers(t *testing.T) {
	contents := [][]int{nil, {2}, {2, 3}, {0}, {-1}, {3, 6}, {2, math.MaxInt64}, {math.MinInt64}}
	numbers := append(wildNumbers(), 2, 3, 4, 5, 6, 7, 20, 30, 45, 2000)
	for i, part := range typeParts() {
		for _, other := range typeParts()[:i+1] {
			for _, n := range numbers {
				for _, m := range numbers {
					box := impl.Type{Id: 3, W: 6, H: 6, D: 6, Tare: 1, Gram: 40, Cost: 2}
					part.set(&box, n)
					other.set(&box, m)
					checkHolds(t, soundRequest(), contents[(n&7+m&7+i)%8], box)
				}
			}
		}
	}
	for _, content := range contents {
		for _, n := range numbers {
			checkHolds(t, soundRequest(), content, impl.Type{W: n, H: n, D: n, Gram: n})
			checkHolds(t, soundRequest(), append([]int{n}, content...), soundRequest().Types[1])
		}
	}
}

// TestEachUnitIsInOneCarton is promise 7: over all volumes of four units with
// weights by turns, and over many orders of up to twelve.
func TestEachUnitIsInOneCarton(t *testing.T) {
	for n := range 10 * 10 * 10 * 10 {
		sizes := [][2]int{}
		for i, v := range []int{n % 10, n / 10 % 10, n / 100 % 10, n / 1000} {
			sizes = append(sizes, [2]int{1 + v, 1 + (n/7+3*i)%(1+n%6)})
		}
		r := rowRequest(sizes...)
		r.Way = n & 1
		checkPack(t, r, placesTo(4))
	}
	seed := 1
	next := func(n int) int {
		seed = (seed*1103515245 + 12345) & (1<<31 - 1)
		return seed >> 12 % n
	}
	for range 1500 {
		r := rowRequest()
		for i := range 1 + next(8) {
			r.Items = append(r.Items, impl.Item{Id: i, W: 1 + next(7), H: 1, D: 1, Gram: 1 + next(6), Count: 1 + next(2)*(1-i/4)})
		}
		r.Way = next(2)
		if len(impl.Units(r)) == 0 {
			t.Fatalf("%v is wrong", r)
		}
		units := []int{}
		for range next(20) {
			units = append(units, next(16)-2)
		}
		checkPack(t, r, units)
		checkPack(t, r, placesTo(len(unitsWanted(r))))
		for range 3 {
			checkRoom(t, r, units[:min(len(units), next(5))], next(16)-2)
		}
	}
}

// TestPackGroups packs the units of each group: together each unit is in one
// carton, and the master carton holds each.
func TestPackGroups(t *testing.T) {
	for bits := range 64 {
		for _, way := range bothWays() {
			r := mixedRequest()
			r.Way, r.Pairs = way, soundTable(bits)
			r.Types[1].Gram = 60 + bits%20
			together := []int{}
			for k := range impl.GroupsOf(r) {
				units := impl.UnitsOf(r, k)
				checkPack(t, r, units)
				together = append(together, slices.Concat(impl.PackWay(r, units)...)...)
			}
			slices.Sort(together)
			if !slices.Equal(together, placesTo(9)) {
				t.Errorf("table %d, way %d: packed are %v", bits, way, together)
			}
		}
	}
}

// TestPackWay has a list that both ways pack otherwise, and ways that are none.
func TestPackWay(t *testing.T) {
	r := rowRequest([2]int{3, 1}, [2]int{6, 1}, [2]int{4, 1}, [2]int{7, 1})
	r.Way = impl.WyFirst
	if got := impl.PackWay(r, placesTo(4)); !sameLists(got, [][]int{{3, 0}, {1, 2}}) {
		t.Errorf("first fit: %v", got)
	}
	r.Way = impl.WyNext
	if got := impl.PackWay(r, placesTo(4)); !sameLists(got, [][]int{{0, 1}, {2}, {3}}) {
		t.Errorf("next fit: %v", got)
	}
	for _, way := range append(wildNumbers()[2:], 2, 3) {
		r.Way = way
		checkNoPacking(t, "a way that is none", r)
	}
}

func checkNoPacking(t *testing.T, what string, r impl.Request) {
	t.Helper()
	for _, units := range [][]int{nil, {}, {0}, {5, 0}, placesTo(12), {-1, 0, 1, math.MaxInt64}} {
		if a, b, c := impl.NextFit(r, units), impl.FirstFit(r, units), impl.PackWay(r, units); len(a) != 0 || len(b) != 0 || len(c) != 0 {
			t.Errorf("%s: %v packed as %v, %v, %v", what, units, a, b, c)
		}
		for _, box := range append(slices.Clone(r.Types[:min(len(r.Types), 9)]), impl.Type{}, impl.Type{W: 2000, H: 2000, D: 2000, Gram: 1200000}) {
			if impl.Holds(r, units, box) {
				t.Errorf("%s: %v holds %v", what, box, units)
			}
		}
		for _, u := range []int{0, 1, -1, 12, math.MinInt64} {
			if impl.Room(r, units, u) {
				t.Errorf("%s: room for %d in %v", what, u, units)
			}
		}
	}
}

// TestPackWrongOrders has each reason in several forms.
func TestPackWrongOrders(t *testing.T) {
	seen := map[int]int{}
	for _, x := range wrongTurns() {
		r := soundRequest()
		x.turn(&r)
		checkNoPacking(t, x.name, r)
		seen[x.want]++
	}
	if len(seen) != 5 {
		t.Errorf("the reasons are %v", seen)
	}
	r := soundRequest()
	r.Pairs, r.Types, r.Items = slices.Repeat(r.Pairs, 10000), slices.Repeat(r.Types, 10000), slices.Repeat(r.Items, 10000)
	checkNoPacking(t, "long lists", r)
}

// TestPackAnyNumbers puts any number into each field of an order.
func TestPackAnyNumbers(t *testing.T) {
	first := soundRequest()
	for i := range soundNumbers(&first) {
		for _, n := range append(wildNumbers(), 2, 3, 4, 5, 6, 7, 30, 900, 1000) {
			r := soundRequest()
			*soundNumbers(&r)[i] = n
			if classWanted(r) != 0 {
				checkNoPacking(t, "any numbers", r)
				continue
			}
			checkPack(t, r, placesTo(12))
			checkPack(t, r, []int{n, 5, 0, n, 3, 3, math.MinInt64, 1})
			checkRoom(t, r, []int{n, 2}, 3)
			checkRoom(t, r, []int{2, 3}, n)
			checkHolds(t, r, []int{2, 3}, r.Types[0])
		}
	}
}

// TestPackLongLists has lists that a way comes to no end of, if it goes through
// all cartons for each unit.
func TestPackLongLists(t *testing.T) {
	r := rowRequest([2]int{6, 1}, [2]int{1, 9}, [2]int{5, 2})
	units := slices.Repeat([]int{1, 0, -1, 2, 3}, 100000)
	if got := impl.NextFit(r, units); len(got) != 200000 || !slices.Equal(got[0], []int{1, 0}) || !slices.Equal(got[199999], []int{2}) {
		t.Errorf("NextFit makes %d cartons", len(got))
	}
	got := impl.FirstFit(r, units)
	if len(got) != 150000 || !slices.Equal(got[0], []int{0, 1}) || !slices.Equal(got[99999], []int{0, 1}) || !slices.Equal(got[149999], []int{2, 2}) {
		t.Errorf("FirstFit makes %d cartons", len(got))
	}
	r = rowRequest([2]int{1, 1})
	r.Types = []impl.Type{{Id: 7, W: 2000, H: 2000, D: 2000, Gram: 99999}}
	r.Pallet = impl.Pallet{W: 2000, D: 2000, H: 2000, Gram: 100000}
	units = make([]int, 300000)
	for _, got := range [][][]int{impl.NextFit(r, units), impl.FirstFit(r, units)} {
		if len(got) != 4 || len(got[0]) != 99999 || len(got[2]) != 99999 || len(got[3]) != 3 {
			t.Errorf("300000 of weight 1 are in %d cartons", len(got))
		}
	}
}

// TestPackWritesNothing looks at the lists and at the spare room behind them.
func TestPackWritesNothing(t *testing.T) {
	r := soundRequest()
	r.Pairs = append(make([]impl.Pair, 0, 9), r.Pairs...)
	r.Types = append(make([]impl.Type, 0, 9), r.Types...)
	r.Items = append(make([]impl.Item, 0, 9), r.Items...)
	units := append(make([]int, 0, 9), 5, -1, 0, 5, 7)
	pairs, types, items, places := slices.Clone(r.Pairs[:9]), slices.Clone(r.Types[:9]), slices.Clone(r.Items[:9]), slices.Clone(units[:9])
	impl.Room(r, units, 3)
	impl.NextFit(r, units)
	impl.FirstFit(r, units)
	impl.PackWay(r, units)
	impl.Holds(r, units, r.Types[1])
	impl.Holds(r, units[:1], r.Types[1])
	if !slices.Equal(pairs, r.Pairs[:9]) || !slices.Equal(types, r.Types[:9]) || !slices.Equal(items, r.Items[:9]) || !slices.Equal(places, units[:9]) {
		t.Error("an argument was written into")
	}
}

// TestPackSharesNothing writes over each carton, and looks at the others, at
// the units that came in and at what is told of them then.
func TestPackSharesNothing(t *testing.T) {
	r := rowRequest([2]int{6, 1}, [2]int{3, 1}, [2]int{5, 1}, [2]int{4, 1}, [2]int{2, 1})
	units := placesTo(5)
	packs := []func(impl.Request, []int) [][]int{impl.NextFit, impl.FirstFit, impl.PackWay}
	for k, pack := range packs {
		want := pack(r, units)
		for i := range want {
			got := pack(r, units)
			spoil(got[i])
			for j := range got {
				if j != i && !slices.Equal(got[j], want[j]) {
					t.Errorf("way %d: writing over carton %d makes carton %d %v", k, i, j, got[j])
				}
			}
			clear(got[:cap(got)])
		}
		if got := pack(r, units); !sameLists(got, want) || !slices.Equal(units, placesTo(5)) {
			t.Errorf("way %d: an answer shares memory: %v of %v", k, got, units)
		}
	}
	if got := impl.NextFit(r, units[1:2]); len(got) != 1 || &got[0][0] == &units[1] {
		t.Error("a carton is the list that came in")
	}
}

// TestPackKeepsNothing turns an order behind a call: what is told then is told
// of the order as it is.
func TestPackKeepsNothing(t *testing.T) {
	r := rowRequest([2]int{6, 1}, [2]int{3, 1}, [2]int{5, 1})
	checkPack(t, r, placesTo(3))
	r.Items[2].H = 1
	if a, b := impl.NextFit(r, placesTo(3)), impl.FirstFit(r, placesTo(3)); !sameLists(a, [][]int{{0, 1, 2}}) || !sameLists(b, [][]int{{0, 1, 2}}) {
		t.Errorf("in an order turned: %v, %v", a, b)
	}
	r.Types[1].W = 9
	checkPack(t, r, placesTo(3))
	r.Types[1].Gram = 1
	if a, b := impl.NextFit(r, placesTo(3)), impl.FirstFit(r, placesTo(3)); len(a) != 3 || len(b) != 3 {
		t.Errorf("in lighter cartons: %v, %v", a, b)
	}
	checkPack(t, greatestRequest(), placesTo(12))
	checkPack(t, r, placesTo(3))
}
