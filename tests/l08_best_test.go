package tests

import (
	"math"
	"slices"
	"testing"

	"loop.example/g00489/impl"
)

// lowersWanted are the three bounds by the chapter's words: by volume, by
// weight, and by the great ones.
func lowersWanted(r impl.Request, units []int) [3]int {
	if classWanted(r) != 0 {
		return [3]int{}
	}
	wanted, most := [3]int{}, masterWanted(r)
	volume, gram := sumsWanted(r, units)
	for wanted[0]*most.W*most.H*most.D < volume {
		wanted[0]++
	}
	for wanted[1]*most.Gram < gram {
		wanted[1]++
	}
	great, heavy := 0, 0
	for _, u := range thereWanted(r, units) {
		volume, gram := sumsWanted(r, []int{u})
		if volume > most.W*most.H*most.D-volume {
			great++
		}
		if gram > most.Gram-gram {
			heavy++
		}
	}
	wanted[2] = max(great, heavy)
	return wanted
}

func notOverWanted(r impl.Request, content []int) bool {
	volume, gram := sumsWanted(r, content)
	most := masterWanted(r)
	return volume <= most.W*most.H*most.D && gram <= most.Gram
}

// bestParting goes through all that can be the first carton of a list: of each
// choice of the units the fewest cartons are those of what is left, and it.
func bestParting(r impl.Request, there []int) [][]int {
	fewest := make([][][]int, 1<<len(there))
	for choice := 1; choice < len(fewest); choice++ {
		for part := choice; part > 0; part = (part - 1) & choice {
			left := fewest[choice^part]
			if fewest[choice] != nil && len(left)+1 >= len(fewest[choice]) {
				continue
			}
			content := []int{}
			for i, u := range there {
				if part>>i&1 == 1 {
					content = append(content, u)
				}
			}
			if notOverWanted(r, content) {
				fewest[choice] = append([][]int{content}, left...)
			}
		}
	}
	return fewest[len(fewest)-1]
}

func bestWanted(r impl.Request, units []int) int {
	if classWanted(r) != 0 {
		return -1
	}
	there := thereWanted(r, units)
	if len(there) > 8 {
		return -1
	}
	return len(bestParting(r, there))
}

func packingWanted(r impl.Request, units []int, cartons [][]int) bool {
	if classWanted(r) != 0 {
		return false
	}
	for _, c := range cartons {
		if len(c) == 0 || !notOverWanted(r, c) {
			return false
		}
	}
	there, together := thereWanted(r, units), slices.Concat(cartons...)
	slices.Sort(there)
	slices.Sort(together)
	return slices.Equal(there, together)
}

func checkLower(t *testing.T, r impl.Request, units []int) {
	t.Helper()
	want := lowersWanted(r, units)
	if got := [3]int{impl.LowerVolume(r, units), impl.LowerGram(r, units), impl.LowerGreat(r, units)}; got != want {
		t.Errorf("the lower bounds of %v, %v are %v, want %v", r, units, got, want)
	}
	if got := impl.Lower(r, units); got != max(want[0], want[1], want[2]) {
		t.Errorf("Lower(%v, %v) = %d of %v", r, units, got, want)
	}
}

func checkBest(t *testing.T, r impl.Request, units []int) {
	t.Helper()
	if got, want := impl.Best(r, units), bestWanted(r, units); got != want {
		t.Errorf("Best(%v, %v) = %d, want %d", r, units, got, want)
	}
}

func checkPacking(t *testing.T, r impl.Request, units []int, cartons [][]int) {
	t.Helper()
	if got, want := impl.IsPacking(r, units, cartons), packingWanted(r, units, cartons); got != want {
		t.Errorf("IsPacking(%v, %v, %v) = %v, want %v", r, units, cartons, got, want)
	}
}

// eachAlone puts each unit that is there into a carton of its own.
func eachAlone(r impl.Request, units []int) [][]int {
	cartons := [][]int{}
	for _, u := range thereWanted(r, units) {
		cartons = append(cartons, []int{u})
	}
	return cartons
}

// checkPromise8 holds the bounds, the best and both ways against each other:
// for any number of units the bounds and the ways, for few of them all.
func checkPromise8(t *testing.T, r impl.Request, units []int) {
	t.Helper()
	checkLower(t, r, units)
	checkBest(t, r, units)
	next, first := impl.NextFit(r, units), impl.FirstFit(r, units)
	for _, cartons := range [][][]int{next, first, eachAlone(r, units)} {
		if !impl.IsPacking(r, units, cartons) {
			t.Errorf("%v is no packing of %v in %v", cartons, units, r)
		}
	}
	least := min(len(next), len(first))
	if got := impl.Lower(r, units); got > least {
		t.Errorf("Lower(%v, %v) = %d, but a way makes %d cartons", r, units, got, least)
	}
	best := impl.Best(r, units)
	if best == -1 {
		return
	}
	if got := impl.Lower(r, units); got > best {
		t.Errorf("Lower(%v, %v) = %d, but Best %d", r, units, got, best)
	}
	if best > least {
		t.Errorf("Best(%v, %v) = %d, but a way makes %d cartons", r, units, best, least)
	}
	if cartons := bestParting(r, thereWanted(r, units)); len(cartons) != best || !impl.IsPacking(r, units, cartons) {
		t.Errorf("Best(%v, %v) = %d, and %v no packing", r, units, best, cartons)
	}
	checkNotFar(t, r, units, best)
}

// checkNotFar says how far the two ways may be from the best: any two cartons
// that follow one another come to more than one of them holds, of volume or of
// weight; where all is light enough for one, that is of volume.
func checkNotFar(t *testing.T, r impl.Request, units []int, best int) {
	t.Helper()
	next, first := len(impl.NextFit(r, units)), len(impl.FirstFit(r, units))
	if best == 0 {
		if next != 0 || first != 0 {
			t.Errorf("of no unit are %d and %d", next, first)
		}
		return
	}
	most := 4*best - 1
	volume, gram := sumsWanted(r, units)
	master := masterWanted(r)
	if gram <= master.Gram || volume <= master.W*master.H*master.D {
		most = 2*best - 1
	}
	if max(next, first) > most {
		t.Errorf("the ways of %v, %v make %d and %d, the best is %d", r, units, next, first, best)
	}
	if gram <= master.Gram && first > 3*best/2 {
		t.Errorf("FirstFit of %v, %v makes %d, the best is %d", r, units, first, best)
	}
}

func TestBestByHand(t *testing.T) {
	cases := []struct {
		name              string
		sizes             [][2]int
		units             []int
		best, next, first int
	}{
		{"one unit", [][2]int{{1, 1}}, placesTo(1), 1, 1, 1},
		{"one that fills it", [][2]int{{10, 10}}, placesTo(1), 1, 1, 1},
		{"all in one", [][2]int{{5, 5}, {3, 2}, {2, 3}}, placesTo(3), 1, 1, 1},
		{"all in one but for a volume", [][2]int{{5, 5}, {3, 2}, {3, 3}}, placesTo(3), 2, 2, 2},
		{"all in one but for a weight", [][2]int{{5, 5}, {3, 2}, {2, 4}}, placesTo(3), 2, 2, 2},
		{"two, and three by next fit", [][2]int{{6, 1}, {3, 1}, {5, 1}, {4, 1}, {2, 1}}, placesTo(5), 2, 3, 2},
		{"each alone", [][2]int{{6, 1}, {1, 10}, {7, 1}, {10, 10}}, placesTo(4), 4, 4, 4},
		{"each alone, of eight", [][2]int{{6, 1}, {6, 1}, {7, 1}, {10, 10}, {9, 1}, {8, 1}, {6, 1}, {6, 1}}, placesTo(8), 8, 8, 8},
		{"neither way, by volume", [][2]int{{4, 1}, {4, 1}, {3, 1}, {3, 1}, {3, 1}, {3, 1}}, placesTo(6), 2, 3, 3},
		{"neither way, by weight", [][2]int{{1, 4}, {1, 4}, {1, 3}, {1, 3}, {1, 3}, {1, 3}}, placesTo(6), 2, 3, 3},
		{"neither way, of both", [][2]int{{3, 1}, {4, 1}, {2, 9}, {1, 9}}, placesTo(4), 2, 3, 3},
		{"neither way, of seven", [][2]int{{4, 1}, {4, 1}, {3, 1}, {3, 1}, {3, 1}, {3, 1}, {10, 1}}, placesTo(7), 3, 4, 4},
		{"small ones beside great ones", [][2]int{{1, 1}, {9, 1}, {2, 1}, {8, 1}, {3, 1}, {7, 1}, {4, 1}, {6, 1}}, placesTo(8), 4, 4, 4},
		{"small ones ahead of great ones", [][2]int{{4, 1}, {3, 1}, {2, 1}, {1, 1}, {6, 1}, {7, 1}, {8, 1}, {9, 1}}, placesTo(8), 4, 5, 4},
		{"light and great beside heavy and small", [][2]int{{9, 1}, {9, 1}, {9, 1}, {1, 9}, {1, 9}, {1, 9}}, placesTo(6), 3, 5, 3},
		{"twice", [][2]int{{6, 1}, {5, 1}}, []int{1, 1}, 1, 1, 1},
		{"thrice", [][2]int{{6, 1}, {5, 1}}, []int{1, 1, 1}, 2, 2, 2},
		{"thrice, each alone", [][2]int{{6, 1}, {5, 1}}, []int{0, 0, 0}, 3, 3, 3},
		{"twice and twice", [][2]int{{6, 1}, {4, 1}}, []int{0, 0, 1, 1}, 2, 3, 2},
		{"some of them", [][2]int{{6, 1}, {3, 1}, {5, 1}, {4, 1}, {2, 1}}, []int{2, 0}, 2, 2, 2},
	}
	for _, c := range cases {
		for _, way := range bothWays() {
			r := rowRequest(c.sizes...)
			r.Way = way
			if got := impl.Best(r, c.units); got != c.best {
				t.Errorf("%s: Best = %d, want %d", c.name, got, c.best)
			}
			if a, b := impl.NextFit(r, c.units), impl.FirstFit(r, c.units); len(a) != c.next || len(b) != c.first {
				t.Errorf("%s: NextFit = %v, FirstFit = %v", c.name, a, b)
			}
			checkPromise8(t, r, c.units)
		}
	}
}

// TestLowerDivides has volumes and weights that divide evenly by what the
// master carton holds, one more and one less.
func TestLowerDivides(t *testing.T) {
	cases := []struct {
		name         string
		sizes        [][2]int
		volume, gram int
	}{
		{"the least", [][2]int{{1, 1}}, 1, 1},
		{"volume met", [][2]int{{5, 1}, {5, 1}}, 1, 1},
		{"volume passed by one", [][2]int{{5, 1}, {5, 1}, {1, 1}}, 2, 1},
		{"volume missed by one", [][2]int{{5, 1}, {4, 1}}, 1, 1},
		{"weight met", [][2]int{{1, 5}, {1, 5}}, 1, 1},
		{"weight passed by one", [][2]int{{1, 5}, {1, 5}, {1, 1}}, 1, 2},
		{"weight missed by one", [][2]int{{1, 5}, {1, 4}}, 1, 1},
		{"both twice", [][2]int{{5, 10}, {5, 1}, {10, 9}}, 2, 2},
		{"both twice and one more", [][2]int{{5, 10}, {5, 1}, {10, 9}, {1, 1}}, 3, 3},
		{"both thrice less one", [][2]int{{10, 10}, {10, 9}, {9, 10}}, 3, 3},
		{"volume thrice, little weight", [][2]int{{10, 1}, {10, 1}, {10, 1}}, 3, 1},
		{"weight thrice, little volume", [][2]int{{1, 10}, {1, 10}, {1, 10}}, 1, 3},
	}
	for _, c := range cases {
		r := rowRequest(c.sizes...)
		units := placesTo(len(c.sizes))
		if a, b := impl.LowerVolume(r, units), impl.LowerGram(r, units); a != c.volume || b != c.gram {
			t.Errorf("%s: LowerVolume = %d, LowerGram = %d", c.name, a, b)
		}
		checkPromise8(t, r, units)
	}
	r := rowRequest([2]int{3, 2})
	for n := range 50 {
		units := make([]int, n)
		if a, b, want := impl.LowerVolume(r, units), impl.LowerGram(r, units), [2]int{(3*n + 9) / 10, (2*n + 9) / 10}; a != want[0] || b != want[1] {
			t.Errorf("%d times: LowerVolume = %d, LowerGram = %d", n, a, b)
		}
		checkPromise8(t, r, units)
	}
}

// TestLowerGreatHalf has units of exactly half and of one more, in a carton
// whose half is a whole number and in one whose half is none.
func TestLowerGreatHalf(t *testing.T) {
	cases := []struct {
		name  string
		sizes [][2]int
		most  int
		want  int
	}{
		{"half of both", [][2]int{{5, 5}, {5, 5}}, 10, 0},
		{"one more of the volume", [][2]int{{6, 5}, {5, 5}}, 10, 1},
		{"one more of the weight", [][2]int{{5, 6}, {5, 5}}, 10, 1},
		{"one less", [][2]int{{4, 4}, {4, 4}, {4, 4}}, 10, 0},
		{"each by its own", [][2]int{{6, 1}, {1, 6}}, 10, 1},
		{"both by both", [][2]int{{6, 6}, {6, 6}}, 10, 2},
		{"more great ones than heavy ones", [][2]int{{6, 6}, {6, 1}, {7, 1}, {1, 10}}, 10, 3},
		{"more heavy ones than great ones", [][2]int{{6, 6}, {1, 6}, {1, 7}, {10, 1}}, 10, 3},
		{"the whole", [][2]int{{10, 1}, {1, 10}, {10, 10}}, 10, 2},
		{"half of an odd number, rounded down", [][2]int{{5, 5}, {5, 5}}, 11, 0},
		{"half of an odd number, rounded up", [][2]int{{6, 5}, {6, 5}, {5, 6}}, 11, 2},
		{"half of an odd weight, rounded up", [][2]int{{5, 6}, {5, 6}, {6, 5}}, 11, 2},
	}
	for _, c := range cases {
		r := rowRequest(c.sizes...)
		r.Pallet.W, r.Types[1].W, r.Types[1].Gram = c.most, c.most, c.most
		units := placesTo(len(c.sizes))
		if got := impl.LowerGreat(r, units); got != c.want {
			t.Errorf("%s: LowerGreat = %d, want %d", c.name, got, c.want)
		}
		if got := impl.LowerGreat(r, slices.Repeat(units, 3)); got != 3*c.want {
			t.Errorf("%s, thrice: LowerGreat = %d, want %d", c.name, got, 3*c.want)
		}
		checkPromise8(t, r, units)
		checkPromise8(t, r, append(units, 0))
	}
}

// TestLowerIsTheGreatest has lists of which each of the three bounds is the
// greatest alone.
func TestLowerIsTheGreatest(t *testing.T) {
	cases := []struct {
		sizes [][2]int
		want  [3]int
	}{
		{[][2]int{{5, 1}, {5, 1}, {5, 1}, {5, 1}, {5, 1}}, [3]int{3, 1, 0}},
		{[][2]int{{1, 5}, {1, 5}, {1, 5}, {1, 5}, {1, 5}}, [3]int{1, 3, 0}},
		{[][2]int{{6, 1}, {6, 1}, {6, 1}}, [3]int{2, 1, 3}},
		{[][2]int{{1, 6}, {1, 6}, {1, 6}}, [3]int{1, 2, 3}},
		{[][2]int{{6, 6}, {4, 4}}, [3]int{1, 1, 1}},
	}
	for _, c := range cases {
		r := rowRequest(c.sizes...)
		units := placesTo(len(c.sizes))
		if got := [3]int{impl.LowerVolume(r, units), impl.LowerGram(r, units), impl.LowerGreat(r, units)}; got != c.want {
			t.Errorf("%v: %v, want %v", c.sizes, got, c.want)
		}
		if got := impl.Lower(r, units); got != slices.Max(c.want[:]) {
			t.Errorf("%v: Lower = %d of %v", c.sizes, got, c.want)
		}
		checkPromise8(t, r, units)
	}
}

// TestBestMaxBest has as many units as may be, and one more: by units of their
// own, by one that stands often, and with places that are not there, which
// don't count.
func TestBestMaxBest(t *testing.T) {
	r := rowRequest([2]int{6, 1}, [2]int{3, 4}, [2]int{1, 1})
	r.Items[2].Count = 6
	eight := placesTo(8)
	outside := append(wildNumbers()[2:], -2, -8, 8, 9, 12)
	cases := []struct {
		name  string
		units []int
		want  int
	}{
		{"eight units", eight, 2},
		{"eight, and places outside", slices.Concat(outside, eight, outside), 2},
		{"eight between places outside", []int{8, 0, -1, 1, 9, 2, 3, 4, math.MinInt64, 5, 6, 7, 8}, 2},
		{"eight, and one twice", append(placesTo(8), 7), -1},
		{"eight, and one twice, and places outside", slices.Concat(outside, eight, outside, []int{3}), -1},
		{"one eight times", slices.Repeat([]int{1}, 8), 4},
		{"one nine times", slices.Repeat([]int{1}, 9), -1},
		{"a great one eight times", slices.Repeat([]int{0}, 8), 8},
		{"a small one eight times", slices.Repeat([]int{5}, 8), 1},
		{"a small one nine times", slices.Repeat([]int{5}, 9), -1},
		{"a small one seven times", slices.Repeat([]int{5}, 7), 1},
		{"four twice", []int{0, 1, 2, 3, 0, 1, 2, 3}, 3},
		{"places outside alone", outside, 0},
		{"twenty places outside", slices.Repeat([]int{8}, 20), 0},
		{"one, and places outside", slices.Concat(outside, []int{0}, outside), 1},
	}
	for _, c := range cases {
		if got := impl.Best(r, c.units); got != c.want {
			t.Errorf("%s: Best = %d, want %d", c.name, got, c.want)
		}
		checkPromise8(t, r, c.units)
	}
	r.Items[2].Count, r.Items[1].Count = 6, 2
	if got := impl.Best(r, placesTo(9)); got != -1 {
		t.Errorf("nine units of the order: Best = %d", got)
	}
	if got := impl.Best(r, placesTo(9)[1:]); got != 2 {
		t.Errorf("eight units of nine: Best = %d", got)
	}
	if impl.MaxBest != 8 {
		t.Errorf("MaxBest = %d", impl.MaxBest)
	}
}

func TestBestNoUnits(t *testing.T) {
	for _, r := range []impl.Request{soundRequest(), rowRequest([2]int{1, 1}), greatestRequest(), leastRequest(), rowRequest()} {
		for _, units := range [][]int{nil, {}, placesTo(3)[:0], {-1}, {12, -12, 13}, {math.MaxInt64, math.MinInt64}} {
			if a, b, c, d := impl.LowerVolume(r, units), impl.LowerGram(r, units), impl.LowerGreat(r, units), impl.Lower(r, units); a != 0 || b != 0 || c != 0 || d != 0 {
				t.Errorf("of %v: %d, %d, %d, %d", units, a, b, c, d)
			}
			if got := impl.Best(r, units); got != 0 {
				t.Errorf("Best of %v = %d", units, got)
			}
			if !impl.IsPacking(r, units, nil) || !impl.IsPacking(r, units, [][]int{}) {
				t.Errorf("no cartons are no packing of %v", units)
			}
			if impl.IsPacking(r, units, [][]int{{}}) || impl.IsPacking(r, units, [][]int{nil}) || impl.IsPacking(r, units, [][]int{{0}}) {
				t.Errorf("a carton is a packing of %v", units)
			}
			checkPromise8(t, r, units)
		}
	}
}

// TestBestGreatest has the greatest volumes that there are, whose sum is still
// far from going round, and their halves.
func TestBestGreatest(t *testing.T) {
	r := greatestRequest()
	checkPromise8(t, r, placesTo(12))
	checkPromise8(t, r, placesTo(8))
	if a, b := impl.Lower(r, placesTo(12)), impl.Best(r, placesTo(8)); a != 12 || b != 8 {
		t.Errorf("of the greatest units Lower = %d, Best = %d", a, b)
	}
	for i := range r.Items {
		r.Items[i].W, r.Items[i].Gram = 1000, 50000
	}
	if a, b := impl.Lower(r, placesTo(12)), impl.Best(r, placesTo(8)); a != 6 || b != 4 {
		t.Errorf("of halves Lower = %d, Best = %d", a, b)
	}
	checkPromise8(t, r, placesTo(8))
	r.Items[3].W, r.Items[5].Gram = 1001, 50001
	checkPromise8(t, r, placesTo(12))
	checkPromise8(t, r, placesTo(8))
	checkPromise8(t, leastRequest(), []int{0, 0, 0})
}

// TestBestIsOfTheMaster has types beside the master that hold more and less: it
// is the master carton that counts, wherever it stands.
func TestBestIsOfTheMaster(t *testing.T) {
	for _, master := range []int{4, 7, 2} {
		r := rowRequest([2]int{1, 3}, [2]int{1, 1}, [2]int{1, 2}, [2]int{1, 4})
		r.Items[1].D, r.Items[3].D = 2, 2
		r.Master = master
		if impl.Class(r) != impl.ClNone {
			t.Fatalf("master %d: %d", master, impl.Class(r))
		}
		for n := range 4 * 4 * 4 * 4 {
			units := []int{n & 3, n >> 2 & 3, n >> 4 & 3, n >> 6 & 3}
			checkPromise8(t, r, units)
			checkPromise8(t, r, append(units, 0, 1, 3))
			checkPacking(t, r, units, [][]int{units[:2], units[2:]})
		}
	}
}

func TestIsPacking(t *testing.T) {
	r := rowRequest([2]int{6, 1}, [2]int{4, 9}, [2]int{5, 5}, [2]int{1, 1}, [2]int{3, 4})
	cases := []struct {
		name    string
		units   []int
		cartons [][]int
		want    bool
	}{
		{"each alone", placesTo(5), [][]int{{0}, {1}, {2}, {3}, {4}}, true},
		{"not in order", placesTo(5), [][]int{{4}, {2}, {0}, {3}, {1}}, true},
		{"the units not in order", []int{3, 1, 4, 0, 2}, [][]int{{4, 2, 3}, {1, 0}}, true},
		{"volume and weight met", placesTo(2), [][]int{{0, 1}}, true},
		{"both met by three", []int{2, 3, 4}, [][]int{{4, 2, 3}}, true},
		{"volume passed by one", []int{0, 2}, [][]int{{0, 2}}, false},
		{"weight passed by one", []int{1, 3, 3}, [][]int{{1, 3, 3}}, false},
		{"the last carton passed by one", placesTo(5), [][]int{{1}, {4}, {3}, {0, 2}}, false},
		{"the first carton passed by one", placesTo(5), [][]int{{0, 2}, {1}, {4}, {3}}, false},
		{"an empty carton behind", placesTo(2), [][]int{{0, 1}, {}}, false},
		{"an empty carton ahead", placesTo(2), [][]int{nil, {0, 1}}, false},
		{"an empty carton between", placesTo(2), [][]int{{0}, {}, {1}}, false},
		{"one lacks", placesTo(3), [][]int{{0, 1}}, false},
		{"the last lacks", placesTo(5), [][]int{{0}, {1}, {2}, {3}}, false},
		{"the first lacks", placesTo(5), [][]int{{1}, {2}, {3}, {4}}, false},
		{"once too often in two cartons", placesTo(2), [][]int{{0, 1}, {0}}, false},
		{"once too often in one carton", []int{3, 4}, [][]int{{3, 4, 3}}, false},
		{"one for another", []int{0, 1}, [][]int{{0}, {2}}, false},
		{"one for another, both in Units", []int{3, 3, 4}, [][]int{{3, 4, 4}}, false},
		{"one that was not asked for", []int{0, 1}, [][]int{{0, 1}, {3}}, false},
		{"twice, and so it is", []int{3, 3}, [][]int{{3, 3}}, true},
		{"twice, in two cartons", []int{0, 0}, [][]int{{0}, {0}}, true},
		{"twice, and once there", []int{3, 3}, [][]int{{3}}, false},
		{"twice, and thrice there", []int{3, 3}, [][]int{{3, 3, 3}}, false},
		{"thrice", []int{3, 0, 3, 3}, [][]int{{3, 0, 3, 3}}, true},
		{"thrice, in three cartons", []int{3, 3, 3}, [][]int{{3}, {3}, {3}}, true},
		{"twice in one carton that is over", []int{2, 2, 2}, [][]int{{2, 2, 2}}, false},
		{"places outside among the units", []int{-1, 0, 5, 1, 12}, [][]int{{0, 1}}, true},
		{"places outside alone", []int{-1, 5}, nil, true},
		{"a place outside in a carton", []int{0, 1}, [][]int{{0, 1, 5}}, false},
		{"a place below 0 in a carton", []int{0, 1}, [][]int{{-1, 0, 1}}, false},
		{"a carton of a place outside", []int{0, 1}, [][]int{{0, 1}, {5}}, false},
		{"a place outside in both", []int{0, 1, 5}, [][]int{{0, 1, 5}}, false},
		{"a place outside alone in both", []int{5}, [][]int{{5}}, false},
		{"a place outside for one that is there", []int{0, 1, 3}, [][]int{{0, 1}, {7}}, false},
		{"no cartons", []int{0}, nil, false},
		{"no cartons of no units", nil, nil, true},
		{"an empty carton of no units", nil, [][]int{{}}, false},
		{"a carton of no units", nil, [][]int{{0}}, false},
	}
	for _, c := range cases {
		if got := impl.IsPacking(r, c.units, c.cartons); got != c.want {
			t.Errorf("%s: IsPacking = %v", c.name, got)
		}
		checkPacking(t, r, c.units, c.cartons)
	}
	for _, n := range append(wildNumbers()[2:], 5, 6, 12, -5) {
		if impl.IsPacking(r, []int{0, n}, [][]int{{0, n}}) || impl.IsPacking(r, []int{0}, [][]int{{n}, {0}}) || !impl.IsPacking(r, []int{n, 0, n}, [][]int{{0}}) {
			t.Errorf("IsPacking with place %d", n)
		}
	}
}

// TestIsPackingEachParting goes through all ways to lay four units, and some
// that are none, into three cartons.
func TestIsPackingEachParting(t *testing.T) {
	r := rowRequest([2]int{6, 3}, [2]int{4, 4}, [2]int{5, 7}, [2]int{1, 2})
	packings := 0
	for n := range 6 * 6 * 6 * 6 {
		cartons := make([][]int, 3)
		for u, at := range []int{n % 6, n / 6 % 6, n / 36 % 6, n / 216} {
			if at < 3 {
				cartons[at] = append(cartons[at], u)
			}
			if at == 4 {
				cartons[0] = append(cartons[0], u-2)
			}
			if at == 5 {
				cartons[u%3], cartons[1] = append(cartons[u%3], u), append(cartons[1], u)
			}
		}
		for _, units := range [][]int{{3, 1, 0, 2}, {0, 1, 2}, {1, 1, 3, 3}, {0, -1, 1, 1, 4, 3}} {
			checkPacking(t, r, units, cartons)
			checkPacking(t, r, units, cartons[:2])
			if impl.IsPacking(r, units, cartons) {
				packings++
				if best := impl.Best(r, units); best > 3 || best == -1 {
					t.Errorf("Best of %v = %d, but %v is a packing", units, best, cartons)
				}
			}
		}
	}
	if packings == 0 {
		t.Error("none of all is a packing")
	}
}

// TestNothingIsBelowTheLowerBounds is promise 8: over all volumes of five units
// with weights by turns, and over many orders of up to twelve.
func TestNothingIsBelowTheLowerBounds(t *testing.T) {
	for n := range 7 * 7 * 7 * 7 {
		sizes := [][2]int{}
		for i, v := range []int{n % 7, n / 7 % 7, n / 49 % 7, n / 343, n % 5} {
			sizes = append(sizes, [2]int{1 + v, 1 + (n/11+3*i)%(1+n%9)})
		}
		r := rowRequest(sizes...)
		r.Way = n & 1
		checkPromise8(t, r, placesTo(5))
	}
	seed := 8
	next := func(n int) int {
		seed = (seed*1103515245 + 12345) & (1<<31 - 1)
		return seed >> 12 % n
	}
	missed := 0
	for range 400 {
		r := rowRequest()
		for i := range 1 + next(8) {
			r.Items = append(r.Items, impl.Item{Id: i, W: 1 + next(7), H: 1, D: 1, Gram: 1 + next(6), Count: 1 + next(2)*(1-i/4)})
		}
		r.Way = next(2)
		if len(impl.Units(r)) == 0 {
			t.Fatalf("%v is wrong", r)
		}
		units := []int{}
		for range next(11) {
			units = append(units, next(16)-2)
		}
		checkPromise8(t, r, units)
		all := placesTo(len(unitsWanted(r)))
		checkPromise8(t, r, all)
		some := all[:min(8, len(all))]
		if best := impl.Best(r, some); best < len(impl.FirstFit(r, some)) && best < len(impl.NextFit(r, some)) {
			missed++
		}
	}
	if missed == 0 {
		t.Error("one of the two ways always found the best")
	}
}

// TestBestInAnyOrder turns a list round and about: how it stands doesn't change
// what the least number is.
func TestBestInAnyOrder(t *testing.T) {
	r := rowRequest([2]int{4, 1}, [2]int{3, 3}, [2]int{4, 2}, [2]int{3, 1}, [2]int{3, 9}, [2]int{3, 1})
	units := placesTo(6)
	want := impl.Best(r, units)
	for n := range 720 {
		turned := slices.Clone(units)
		for i := 6; i > 1; i-- {
			turned[i-1], turned[n%i] = turned[n%i], turned[i-1]
			n /= i
		}
		if got := impl.Best(r, turned); got != want || want != bestWanted(r, units) {
			t.Fatalf("Best(%v) = %d, want %d", turned, got, want)
		}
	}
}

func checkNoBest(t *testing.T, what string, r impl.Request) {
	t.Helper()
	for _, units := range [][]int{nil, {}, {0}, {5, 0}, placesTo(12), {-1, 0, 1, math.MaxInt64}} {
		if a, b, c, d := impl.LowerVolume(r, units), impl.LowerGram(r, units), impl.LowerGreat(r, units), impl.Lower(r, units); a != 0 || b != 0 || c != 0 || d != 0 {
			t.Errorf("%s: the bounds of %v are %d, %d, %d, %d", what, units, a, b, c, d)
		}
		if got := impl.Best(r, units); got != -1 {
			t.Errorf("%s: Best of %v = %d", what, units, got)
		}
		for _, cartons := range [][][]int{nil, {}, {{}}, {units}, {{0}}, {{5}, {0}}} {
			if impl.IsPacking(r, units, cartons) {
				t.Errorf("%s: %v is a packing of %v", what, cartons, units)
			}
		}
	}
}

// TestBestWrongOrders has each reason in several forms.
func TestBestWrongOrders(t *testing.T) {
	seen := map[int]int{}
	for _, x := range wrongTurns() {
		r := soundRequest()
		x.turn(&r)
		checkNoBest(t, x.name, r)
		seen[x.want]++
	}
	if len(seen) != 5 {
		t.Errorf("the reasons are %v", seen)
	}
	r := soundRequest()
	r.Pairs, r.Types, r.Items = slices.Repeat(r.Pairs, 10000), slices.Repeat(r.Types, 10000), slices.Repeat(r.Items, 10000)
	checkNoBest(t, "long lists", r)
}

// TestBestAnyNumbers puts any number into each field of an order, and into a
// list of units.
func TestBestAnyNumbers(t *testing.T) {
	first := soundRequest()
	for i := range soundNumbers(&first) {
		for _, n := range append(wildNumbers(), 2, 3, 4, 5, 6, 7, 30, 900, 1000) {
			r := soundRequest()
			*soundNumbers(&r)[i] = n
			if classWanted(r) != 0 {
				checkNoBest(t, "any numbers", r)
				continue
			}
			checkPromise8(t, r, placesTo(6))
			checkPromise8(t, r, []int{n, 5, 0, n, 3, 3, math.MinInt64, 1})
			checkPacking(t, r, []int{n, 2, 3}, [][]int{{3, 2}})
			checkPacking(t, r, []int{2, 3}, [][]int{{3, 2}, {n}})
		}
	}
}

// TestBestLongLists has lists far longer than an order has units.
func TestBestLongLists(t *testing.T) {
	r := rowRequest([2]int{6, 1}, [2]int{1, 9}, [2]int{5, 2})
	units := slices.Repeat([]int{1, 0, -1, 2, 3}, 100000)
	if a, b, c, d := impl.LowerVolume(r, units), impl.LowerGram(r, units), impl.LowerGreat(r, units), impl.Lower(r, units); a != 120000 || b != 120000 || c != 100000 || d != 120000 {
		t.Errorf("the bounds are %d, %d, %d, %d", a, b, c, d)
	}
	if got := impl.Best(r, units); got != -1 {
		t.Errorf("Best = %d", got)
	}
	outside := append(slices.Repeat([]int{-1, 3}, 200000), placesTo(3)...)
	if a, b := impl.Best(r, outside), impl.Lower(r, outside); a != 2 || b != 2 {
		t.Errorf("behind many places outside Best = %d, Lower = %d", a, b)
	}
	for _, cartons := range [][][]int{impl.NextFit(r, units), impl.FirstFit(r, units)} {
		if !impl.IsPacking(r, units, cartons) || impl.IsPacking(r, units, cartons[1:]) || impl.IsPacking(r, units[1:], cartons) {
			t.Errorf("IsPacking of %d cartons", len(cartons))
		}
	}
	if long := slices.Repeat([][]int{units}, 100000); impl.IsPacking(r, units, long) || impl.IsPacking(r, []int{0}, long) {
		t.Error("long cartons are a packing")
	}
}

// TestBestIsSoonFound has lists for which many partings are tried.
func TestBestIsSoonFound(t *testing.T) {
	r := rowRequest([2]int{3, 5}, [2]int{4, 3}, [2]int{5, 4}, [2]int{4, 5}, [2]int{3, 4}, [2]int{5, 3}, [2]int{5, 5}, [2]int{4, 4})
	r.Types[1].Gram = 11
	for range 300 {
		if got := impl.Best(r, placesTo(8)); got != 4 {
			t.Fatalf("Best = %d", got)
		}
	}
	checkPromise8(t, r, placesTo(8))
}

// TestBestWritesNothing looks at the lists and at the spare room behind them.
func TestBestWritesNothing(t *testing.T) {
	r := soundRequest()
	r.Pairs = append(make([]impl.Pair, 0, 9), r.Pairs...)
	r.Types = append(make([]impl.Type, 0, 9), r.Types...)
	r.Items = append(make([]impl.Item, 0, 9), r.Items...)
	units := append(make([]int, 0, 9), 5, -1, 0, 3, 7)
	cartons := append(make([][]int, 0, 4), append(make([]int, 0, 5), 5, 0), append(make([]int, 0, 5), 3))
	pairs, types, items, places := slices.Clone(r.Pairs[:9]), slices.Clone(r.Types[:9]), slices.Clone(r.Items[:9]), slices.Clone(units[:9])
	one, other := slices.Clone(cartons[0][:5]), slices.Clone(cartons[1][:5])
	impl.LowerVolume(r, units)
	impl.LowerGram(r, units)
	impl.LowerGreat(r, units)
	impl.Lower(r, units)
	impl.Best(r, units)
	if !impl.IsPacking(r, units, cartons) {
		t.Error("no packing")
	}
	if !slices.Equal(pairs, r.Pairs[:9]) || !slices.Equal(types, r.Types[:9]) || !slices.Equal(items, r.Items[:9]) || !slices.Equal(places, units[:9]) {
		t.Error("an argument was written into")
	}
	if !slices.Equal(one, cartons[0][:5]) || !slices.Equal(other, cartons[1][:5]) || cartons[:4][2] != nil || cartons[:4][3] != nil {
		t.Error("the cartons were written into")
	}
}

// TestBestKeepsNothing turns an order behind a call: what is told then is told
// of the order as it is.
func TestBestKeepsNothing(t *testing.T) {
	r := rowRequest([2]int{6, 1}, [2]int{3, 1}, [2]int{5, 1})
	checkPromise8(t, r, placesTo(3))
	r.Items[2].H = 1
	if a, b := impl.Best(r, placesTo(3)), impl.Lower(r, placesTo(3)); a != 1 || b != 1 {
		t.Errorf("in an order turned: %d, %d", a, b)
	}
	r.Types[1].W = 9
	checkPromise8(t, r, placesTo(3))
	r.Types[1].Gram = 1
	if a, b := impl.Best(r, placesTo(3)), impl.Lower(r, placesTo(3)); a != 3 || b != 3 {
		t.Errorf("in lighter cartons: %d, %d", a, b)
	}
	checkPromise8(t, greatestRequest(), placesTo(8))
	checkPromise8(t, r, placesTo(3))
}
