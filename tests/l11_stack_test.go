package tests

import (
	"math"
	"slices"
	"testing"

	"loop.example/g00489/impl"
)

// The wanted answers are the chapter's words, written out once more: the bounds
// in numbers, the layers and the loads by cutting the longest run that isn't
// over off what is left.

func standWanted(p impl.Pallet, d int, h int, gram int) bool {
	return d >= 1 && d <= p.D && h >= 1 && h <= p.H && gram >= 1 && gram <= p.Gram
}

func shelvesOkWanted(p impl.Pallet, list []impl.Shelf) bool {
	return boxesWanted(p, nil) && !slices.ContainsFunc(list, func(x impl.Shelf) bool { return !standWanted(p, x.D, x.H, x.Gram) })
}

func stacksOkWanted(p impl.Pallet, list []impl.Layer) bool {
	return boxesWanted(p, nil) && !slices.ContainsFunc(list, func(x impl.Layer) bool { return !standWanted(p, x.D, x.H, x.Gram) })
}

// layerOf is the layer in which the shelves at those places are.
func layerOf(list []impl.Shelf, places []int) impl.Layer {
	l := impl.Layer{Shelves: slices.Clone(places)}
	for _, i := range places {
		l.D, l.H, l.Gram = l.D+list[i].D, max(l.H, list[i].H), l.Gram+list[i].Gram
	}
	return l
}

// loadOf is the load in which the layers at those places are.
func loadOf(list []impl.Layer, places []int) impl.Load {
	l := impl.Load{Layers: slices.Clone(places)}
	for _, i := range places {
		l.H, l.Gram = l.H+list[i].H, l.Gram+list[i].Gram
	}
	return l
}

func layersWanted(p impl.Pallet, list []impl.Shelf) []impl.Layer {
	if !shelvesOkWanted(p, list) {
		return nil
	}
	layers := []impl.Layer{}
	for left := placesTo(len(list)); len(left) > 0; {
		n := len(left)
		for l := layerOf(list, left); l.D > p.D || l.Gram > p.Gram; l = layerOf(list, left[:n]) {
			n--
		}
		layers, left = append(layers, layerOf(list, left[:n])), left[n:]
	}
	return layers
}

func loadsWanted(p impl.Pallet, list []impl.Layer) []impl.Load {
	if !stacksOkWanted(p, list) {
		return nil
	}
	loads := []impl.Load{}
	for left := placesTo(len(list)); len(left) > 0; {
		n := len(left)
		for l := loadOf(list, left); l.H > p.H || l.Gram > p.Gram; l = loadOf(list, left[:n]) {
			n--
		}
		loads, left = append(loads, loadOf(list, left[:n])), left[n:]
	}
	return loads
}

func sameLayers(a []impl.Layer, b []impl.Layer) bool {
	return slices.EqualFunc(a, b, func(x impl.Layer, y impl.Layer) bool {
		return slices.Equal(x.Shelves, y.Shelves) && x.D == y.D && x.H == y.H && x.Gram == y.Gram
	})
}

func sameLoads(a []impl.Load, b []impl.Load) bool {
	return slices.EqualFunc(a, b, func(x impl.Load, y impl.Load) bool {
		return slices.Equal(x.Layers, y.Layers) && x.H == y.H && x.Gram == y.Gram
	})
}

// checkPromise11 holds the layers against the shelves alone: each tells what is
// in it, each shelf is in one, in order, none is over, and two that follow one
// another would not have found room in one.
func checkPromise11(t *testing.T, p impl.Pallet, list []impl.Shelf, layers []impl.Layer) {
	t.Helper()
	together := []int{}
	for i, l := range layers {
		if len(l.Shelves) == 0 || l.D > p.D || l.H > p.H || l.Gram > p.Gram {
			t.Errorf("layer %d, %v, is empty or over: %v %v", i, l, p, list)
		}
		if want := layerOf(list, l.Shelves); !sameLayers([]impl.Layer{l}, []impl.Layer{want}) {
			t.Errorf("layer %d of %v %v tells %v, but has %v", i, p, list, l, want)
		}
		if i > 0 && layers[i-1].D+l.D <= p.D && layers[i-1].Gram+l.Gram <= p.Gram {
			t.Errorf("layers %d and %d of %v %v would have found room in one: %v", i-1, i, p, list, layers)
		}
		together = append(together, l.Shelves...)
	}
	if !slices.Equal(together, placesTo(len(list))) {
		t.Errorf("the layers of %v %v have the shelves %v", p, list, together)
	}
}

// checkLoadsToo is the same of the loads.
func checkLoadsToo(t *testing.T, p impl.Pallet, list []impl.Layer, loads []impl.Load) {
	t.Helper()
	together := []int{}
	for i, l := range loads {
		if len(l.Layers) == 0 || l.H > p.H || l.Gram > p.Gram {
			t.Errorf("load %d, %v, is empty or over: %v %v", i, l, p, list)
		}
		if want := loadOf(list, l.Layers); !sameLoads([]impl.Load{l}, []impl.Load{want}) {
			t.Errorf("load %d of %v %v tells %v, but has %v", i, p, list, l, want)
		}
		if i > 0 && loads[i-1].H+l.H <= p.H && loads[i-1].Gram+l.Gram <= p.Gram {
			t.Errorf("loads %d and %d of %v %v would have found room in one: %v", i-1, i, p, list, loads)
		}
		together = append(together, l.Layers...)
	}
	if !slices.Equal(together, placesTo(len(list))) {
		t.Errorf("the loads of %v %v have the layers %v", p, list, together)
	}
}

// checkLayers asks for the layers of shelves that are as they must be.
func checkLayers(t *testing.T, p impl.Pallet, list []impl.Shelf) []impl.Layer {
	t.Helper()
	if !impl.ShelvesOk(p, list) || !shelvesOkWanted(p, list) {
		t.Errorf("ShelvesOk(%v, %v) = %v", p, list, impl.ShelvesOk(p, list))
	}
	got := impl.LayersOf(p, list)
	if want := layersWanted(p, list); !sameLayers(got, want) {
		t.Errorf("LayersOf(%v, %v) = %v, want %v", p, list, got, want)
	}
	checkPromise11(t, p, list, got)
	return got
}

func checkLoads(t *testing.T, p impl.Pallet, list []impl.Layer) []impl.Load {
	t.Helper()
	if !impl.StacksOk(p, list) || !stacksOkWanted(p, list) {
		t.Errorf("StacksOk(%v, %v) = %v", p, list, impl.StacksOk(p, list))
	}
	got := impl.LoadsOf(p, list)
	if want := loadsWanted(p, list); !sameLoads(got, want) {
		t.Errorf("LoadsOf(%v, %v) = %v, want %v", p, list, got, want)
	}
	checkLoadsToo(t, p, list, got)
	return got
}

// checkStack asks for the layers of shelves and for the loads of those.
func checkStack(t *testing.T, p impl.Pallet, list []impl.Shelf) []impl.Load {
	t.Helper()
	return checkLoads(t, p, checkLayers(t, p, list))
}

func checkNoLayers(t *testing.T, what string, p impl.Pallet, list []impl.Shelf) {
	t.Helper()
	if impl.ShelvesOk(p, list) || shelvesOkWanted(p, list) {
		t.Errorf("%s: ShelvesOk of %v and %d shelves = %v", what, p, len(list), impl.ShelvesOk(p, list))
	}
	if got := impl.LayersOf(p, list); len(got) != 0 {
		t.Errorf("%s: LayersOf = %v", what, got)
	}
}

func checkNoLoads(t *testing.T, what string, p impl.Pallet, list []impl.Layer) {
	t.Helper()
	if impl.StacksOk(p, list) || stacksOkWanted(p, list) {
		t.Errorf("%s: StacksOk of %v and %d layers = %v", what, p, len(list), impl.StacksOk(p, list))
	}
	if got := impl.LoadsOf(p, list); len(got) != 0 {
		t.Errorf("%s: LoadsOf = %v", what, got)
	}
}

// rows are D, H and Gram: of shelves, and of layers.
func shelvesOfRows(rows ...[3]int) []impl.Shelf {
	list := []impl.Shelf{}
	for _, row := range rows {
		list = append(list, impl.Shelf{List: []int{0}, W: 1, D: row[0], H: row[1], Gram: row[2]})
	}
	return list
}

func layersOfRows(rows ...[3]int) []impl.Layer {
	list := []impl.Layer{}
	for _, row := range rows {
		list = append(list, impl.Layer{Shelves: []int{0}, D: row[0], H: row[1], Gram: row[2]})
	}
	return list
}

// shelfParts and stackParts are the numbers that are asked for, with what they
// may be on rowPallet.
func shelfParts() []numberPart[impl.Shelf] {
	return []numberPart[impl.Shelf]{
		{"D", 1, 8, func(x *impl.Shelf, n int) { x.D = n }},
		{"H", 1, 6, func(x *impl.Shelf, n int) { x.H = n }},
		{"Gram", 1, 20, func(x *impl.Shelf, n int) { x.Gram = n }},
	}
}

func stackParts() []numberPart[impl.Layer] {
	return []numberPart[impl.Layer]{
		{"D", 1, 8, func(x *impl.Layer, n int) { x.D = n }},
		{"H", 1, 6, func(x *impl.Layer, n int) { x.H = n }},
		{"Gram", 1, 20, func(x *impl.Layer, n int) { x.Gram = n }},
	}
}

func rightShelf() impl.Shelf { return impl.Shelf{List: []int{0, 1}, W: 4, D: 3, H: 2, Gram: 5} }

func rightLayer() impl.Layer { return impl.Layer{Shelves: []int{0, 1}, D: 4, H: 3, Gram: 5} }

func TestShelvesOkOfEachShelf(t *testing.T) {
	ok := func(x impl.Shelf) bool { return impl.ShelvesOk(rowPallet(), []impl.Shelf{x}) }
	checkBounds(t, "a shelf alone", rightShelf, shelfParts(), ok)
	for at := range 5 {
		checkBounds(t, "a shelf among others", rightShelf, shelfParts(), func(x impl.Shelf) bool {
			list := slices.Repeat([]impl.Shelf{rightShelf()}, 5)
			list[at] = x
			return impl.ShelvesOk(rowPallet(), list)
		})
	}
}

func TestStacksOkOfEachLayer(t *testing.T) {
	ok := func(x impl.Layer) bool { return impl.StacksOk(rowPallet(), []impl.Layer{x}) }
	checkBounds(t, "a layer alone", rightLayer, stackParts(), ok)
	for at := range 5 {
		checkBounds(t, "a layer among others", rightLayer, stackParts(), func(x impl.Layer) bool {
			list := slices.Repeat([]impl.Layer{rightLayer()}, 5)
			list[at] = x
			return impl.StacksOk(rowPallet(), list)
		})
	}
}

func TestStackOkOfThePallet(t *testing.T) {
	shelf, layer := impl.Shelf{D: 1, H: 1, Gram: 1}, impl.Layer{D: 1, H: 1, Gram: 1}
	for n := range 4 {
		shelves, layers := slices.Repeat([]impl.Shelf{shelf}, n*n*n*100), slices.Repeat([]impl.Layer{layer}, n*n*n*100)
		checkBounds(t, "the pallet of shelves", rightPallet, palletParts(), func(p impl.Pallet) bool { return impl.ShelvesOk(p, shelves) })
		checkBounds(t, "the pallet of layers", rightPallet, palletParts(), func(p impl.Pallet) bool { return impl.StacksOk(p, layers) })
	}
	for _, p := range []impl.Pallet{{W: 1, D: 1, H: 1, Gram: 1}, {W: 2000, D: 2000, H: 2000, Gram: 100000}, rowPallet()} {
		as := [3]int{p.D, p.H, p.Gram}
		checkStack(t, p, shelvesOfRows(as))
		if got := checkStack(t, p, shelvesOfRows(as, as, as)); len(got) != 3 {
			t.Errorf("three as great as %v are in %v", p, got)
		}
		for i := range 3 {
			for _, n := range []int{as[i] + 1, 0, -1} {
				row := as
				row[i] = n
				checkNoLayers(t, "not as the pallet lets it", p, shelvesOfRows(row))
				checkNoLayers(t, "not as the pallet lets it, behind others", p, shelvesOfRows([3]int{1, 1, 1}, as, row))
				checkNoLoads(t, "not as the pallet lets it", p, layersOfRows(row))
				checkNoLoads(t, "not as the pallet lets it, behind others", p, layersOfRows([3]int{1, 1, 1}, as, row))
			}
		}
	}
	if impl.ShelvesOk(impl.Pallet{}, nil) || impl.ShelvesOk(impl.Pallet{}, []impl.Shelf{{}}) || impl.ShelvesOk(rowPallet(), []impl.Shelf{{}}) {
		t.Error("the zero pallet, or the zero shelf, is taken")
	}
	if impl.StacksOk(impl.Pallet{}, nil) || impl.StacksOk(impl.Pallet{}, []impl.Layer{{}}) || impl.StacksOk(rowPallet(), []impl.Layer{{}}) {
		t.Error("the zero pallet, or the zero layer, is taken")
	}
}

// TestNoMoreIsAsked has shelves and layers whose other parts are anything: D, H
// and Gram alone are asked for.
func TestNoMoreIsAsked(t *testing.T) {
	lists := [][]int{nil, {}, {0}, {-1}, {7, 7, 7}, {math.MaxInt64, math.MinInt64, 0}, placesTo(30)}
	rows := [][3]int{{3, 2, 5}, {5, 4, 5}, {1, 6, 10}, {7, 1, 1}}
	shelves, layers := shelvesOfRows(rows...), layersOfRows(rows...)
	for _, n := range append(wildNumbers(), 10, 11, 2000) {
		for _, list := range lists {
			for at := range rows {
				a, b := shelvesOfRows(rows...), layersOfRows(rows...)
				a[at].List, a[at].W, b[at].Shelves = list, n, list
				if got := checkLayers(t, rowPallet(), a); !sameLayers(got, impl.LayersOf(rowPallet(), shelves)) || len(got) != 2 {
					t.Errorf("shelf %d with W %d and %v makes %v", at, n, list, got)
				}
				if got := checkLoads(t, rowPallet(), b); !sameLoads(got, impl.LoadsOf(rowPallet(), layers)) || len(got) != 3 {
					t.Errorf("layer %d with %v makes %v", at, list, got)
				}
			}
		}
	}
}

func TestLayersByHand(t *testing.T) {
	cases := []struct {
		name string
		list []impl.Shelf
		want []impl.Layer
	}{
		{"none", nil, nil},
		{"one", shelvesOfRows([3]int{3, 2, 5}), []impl.Layer{{Shelves: []int{0}, D: 3, H: 2, Gram: 5}}},
		{"the least", shelvesOfRows([3]int{1, 1, 1}), []impl.Layer{{Shelves: []int{0}, D: 1, H: 1, Gram: 1}}},
		{"the greatest", shelvesOfRows([3]int{8, 6, 20}), []impl.Layer{{Shelves: []int{0}, D: 8, H: 6, Gram: 20}}},
		{"several in one, the first is the highest", shelvesOfRows([3]int{3, 5, 4}, [3]int{2, 1, 5}, [3]int{1, 4, 6}), []impl.Layer{{Shelves: []int{0, 1, 2}, D: 6, H: 5, Gram: 15}}},
		{"several in one, the highest in the middle", shelvesOfRows([3]int{1, 2, 6}, [3]int{2, 6, 1}, [3]int{3, 1, 2}), []impl.Layer{{Shelves: []int{0, 1, 2}, D: 6, H: 6, Gram: 9}}},
		{"several in one, the last is the highest", shelvesOfRows([3]int{1, 2, 6}, [3]int{2, 3, 1}, [3]int{3, 4, 2}), []impl.Layer{{Shelves: []int{0, 1, 2}, D: 6, H: 4, Gram: 9}}},
		{"several in several", shelvesOfRows([3]int{3, 1, 1}, [3]int{4, 2, 2}, [3]int{2, 6, 3}, [3]int{5, 3, 4}, [3]int{1, 5, 5}, [3]int{8, 4, 6}),
			[]impl.Layer{{Shelves: []int{0, 1}, D: 7, H: 2, Gram: 3}, {Shelves: []int{2, 3, 4}, D: 8, H: 6, Gram: 12}, {Shelves: []int{5}, D: 8, H: 4, Gram: 6}}},
		{"each in one, by its depth", shelvesOfRows([3]int{5, 1, 1}, [3]int{6, 3, 2}, [3]int{4, 2, 3}),
			[]impl.Layer{{Shelves: []int{0}, D: 5, H: 1, Gram: 1}, {Shelves: []int{1}, D: 6, H: 3, Gram: 2}, {Shelves: []int{2}, D: 4, H: 2, Gram: 3}}},
		{"each in one, by its weight", shelvesOfRows([3]int{1, 1, 11}, [3]int{2, 3, 12}, [3]int{1, 2, 10}),
			[]impl.Layer{{Shelves: []int{0}, D: 1, H: 1, Gram: 11}, {Shelves: []int{1}, D: 2, H: 3, Gram: 12}, {Shelves: []int{2}, D: 1, H: 2, Gram: 10}}},
		{"heights are not together", shelvesOfRows([3]int{1, 6, 1}, [3]int{1, 6, 1}, [3]int{1, 5, 1}), []impl.Layer{{Shelves: []int{0, 1, 2}, D: 3, H: 6, Gram: 3}}},
		{"not by depth", shelvesOfRows([3]int{1, 1, 1}, [3]int{5, 1, 1}, [3]int{2, 1, 1}, [3]int{8, 1, 1}),
			[]impl.Layer{{Shelves: []int{0, 1, 2}, D: 8, H: 1, Gram: 3}, {Shelves: []int{3}, D: 8, H: 1, Gram: 1}}},
		{"depth met", shelvesOfRows([3]int{5, 1, 1}, [3]int{3, 2, 1}), []impl.Layer{{Shelves: []int{0, 1}, D: 8, H: 2, Gram: 2}}},
		{"depth passed by one", shelvesOfRows([3]int{5, 1, 1}, [3]int{4, 2, 1}), []impl.Layer{{Shelves: []int{0}, D: 5, H: 1, Gram: 1}, {Shelves: []int{1}, D: 4, H: 2, Gram: 1}}},
		{"weight met", shelvesOfRows([3]int{1, 1, 13}, [3]int{1, 2, 7}), []impl.Layer{{Shelves: []int{0, 1}, D: 2, H: 2, Gram: 20}}},
		{"weight passed by one", shelvesOfRows([3]int{1, 1, 13}, [3]int{1, 2, 8}), []impl.Layer{{Shelves: []int{0}, D: 1, H: 1, Gram: 13}, {Shelves: []int{1}, D: 1, H: 2, Gram: 8}}},
		{"both met", shelvesOfRows([3]int{5, 1, 13}, [3]int{3, 2, 7}), []impl.Layer{{Shelves: []int{0, 1}, D: 8, H: 2, Gram: 20}}},
		{"both passed by one", shelvesOfRows([3]int{5, 1, 13}, [3]int{4, 2, 8}), []impl.Layer{{Shelves: []int{0}, D: 5, H: 1, Gram: 13}, {Shelves: []int{1}, D: 4, H: 2, Gram: 8}}},
		{"depth met, weight passed", shelvesOfRows([3]int{5, 1, 13}, [3]int{3, 2, 8}), []impl.Layer{{Shelves: []int{0}, D: 5, H: 1, Gram: 13}, {Shelves: []int{1}, D: 3, H: 2, Gram: 8}}},
		{"weight met, depth passed", shelvesOfRows([3]int{5, 1, 13}, [3]int{4, 2, 7}), []impl.Layer{{Shelves: []int{0}, D: 5, H: 1, Gram: 13}, {Shelves: []int{1}, D: 4, H: 2, Gram: 7}}},
		{"a weight ends a layer of three", shelvesOfRows([3]int{1, 1, 9}, [3]int{1, 1, 9}, [3]int{1, 1, 2}, [3]int{1, 1, 1}), []impl.Layer{{Shelves: []int{0, 1, 2}, D: 3, H: 1, Gram: 20}, {Shelves: []int{3}, D: 1, H: 1, Gram: 1}}},
		{"room in an earlier one alone, by depth", shelvesOfRows([3]int{3, 1, 1}, [3]int{7, 1, 1}, [3]int{5, 1, 1}),
			[]impl.Layer{{Shelves: []int{0}, D: 3, H: 1, Gram: 1}, {Shelves: []int{1}, D: 7, H: 1, Gram: 1}, {Shelves: []int{2}, D: 5, H: 1, Gram: 1}}},
		{"room in an earlier one alone, by weight", shelvesOfRows([3]int{1, 1, 5}, [3]int{1, 1, 19}, [3]int{1, 1, 3}, [3]int{1, 1, 17}),
			[]impl.Layer{{Shelves: []int{0}, D: 1, H: 1, Gram: 5}, {Shelves: []int{1}, D: 1, H: 1, Gram: 19}, {Shelves: []int{2, 3}, D: 2, H: 1, Gram: 20}}},
		{"room in an earlier one and in the last", shelvesOfRows([3]int{3, 1, 1}, [3]int{6, 1, 1}, [3]int{2, 1, 1}),
			[]impl.Layer{{Shelves: []int{0}, D: 3, H: 1, Gram: 1}, {Shelves: []int{1, 2}, D: 8, H: 1, Gram: 2}}},
	}
	for _, c := range cases {
		if got := impl.LayersOf(rowPallet(), c.list); !sameLayers(got, c.want) {
			t.Errorf("%s: LayersOf = %v, want %v", c.name, got, c.want)
		}
		checkStack(t, rowPallet(), c.list)
	}
}

func TestLoadsByHand(t *testing.T) {
	cases := []struct {
		name string
		list []impl.Layer
		want []impl.Load
	}{
		{"none", nil, nil},
		{"one", layersOfRows([3]int{3, 2, 5}), []impl.Load{{Layers: []int{0}, H: 2, Gram: 5}}},
		{"the least", layersOfRows([3]int{1, 1, 1}), []impl.Load{{Layers: []int{0}, H: 1, Gram: 1}}},
		{"the greatest", layersOfRows([3]int{8, 6, 20}), []impl.Load{{Layers: []int{0}, H: 6, Gram: 20}}},
		{"several in one", layersOfRows([3]int{3, 3, 4}, [3]int{2, 1, 5}, [3]int{8, 2, 6}), []impl.Load{{Layers: []int{0, 1, 2}, H: 6, Gram: 15}}},
		{"several in several", layersOfRows([3]int{3, 2, 1}, [3]int{4, 3, 2}, [3]int{2, 2, 3}, [3]int{5, 3, 4}, [3]int{1, 1, 5}, [3]int{8, 6, 6}),
			[]impl.Load{{Layers: []int{0, 1}, H: 5, Gram: 3}, {Layers: []int{2, 3, 4}, H: 6, Gram: 12}, {Layers: []int{5}, H: 6, Gram: 6}}},
		{"each in one, by its height", layersOfRows([3]int{1, 4, 1}, [3]int{1, 5, 2}, [3]int{1, 2, 3}),
			[]impl.Load{{Layers: []int{0}, H: 4, Gram: 1}, {Layers: []int{1}, H: 5, Gram: 2}, {Layers: []int{2}, H: 2, Gram: 3}}},
		{"each in one, by its weight", layersOfRows([3]int{1, 1, 11}, [3]int{2, 3, 12}, [3]int{1, 2, 10}),
			[]impl.Load{{Layers: []int{0}, H: 1, Gram: 11}, {Layers: []int{1}, H: 3, Gram: 12}, {Layers: []int{2}, H: 2, Gram: 10}}},
		{"depths are not together", layersOfRows([3]int{8, 1, 1}, [3]int{8, 1, 1}, [3]int{7, 1, 1}), []impl.Load{{Layers: []int{0, 1, 2}, H: 3, Gram: 3}}},
		{"not by height", layersOfRows([3]int{1, 1, 1}, [3]int{1, 3, 1}, [3]int{1, 2, 1}, [3]int{1, 6, 1}), []impl.Load{{Layers: []int{0, 1, 2}, H: 6, Gram: 3}, {Layers: []int{3}, H: 6, Gram: 1}}},
		{"height met", layersOfRows([3]int{1, 4, 1}, [3]int{2, 2, 1}), []impl.Load{{Layers: []int{0, 1}, H: 6, Gram: 2}}},
		{"height passed by one", layersOfRows([3]int{1, 4, 1}, [3]int{2, 3, 1}), []impl.Load{{Layers: []int{0}, H: 4, Gram: 1}, {Layers: []int{1}, H: 3, Gram: 1}}},
		{"weight met", layersOfRows([3]int{1, 1, 13}, [3]int{1, 2, 7}), []impl.Load{{Layers: []int{0, 1}, H: 3, Gram: 20}}},
		{"weight passed by one", layersOfRows([3]int{1, 1, 13}, [3]int{1, 2, 8}), []impl.Load{{Layers: []int{0}, H: 1, Gram: 13}, {Layers: []int{1}, H: 2, Gram: 8}}},
		{"both met", layersOfRows([3]int{1, 4, 13}, [3]int{2, 2, 7}), []impl.Load{{Layers: []int{0, 1}, H: 6, Gram: 20}}},
		{"both passed by one", layersOfRows([3]int{1, 4, 13}, [3]int{2, 3, 8}), []impl.Load{{Layers: []int{0}, H: 4, Gram: 13}, {Layers: []int{1}, H: 3, Gram: 8}}},
		{"height met, weight passed", layersOfRows([3]int{1, 4, 13}, [3]int{2, 2, 8}), []impl.Load{{Layers: []int{0}, H: 4, Gram: 13}, {Layers: []int{1}, H: 2, Gram: 8}}},
		{"weight met, height passed", layersOfRows([3]int{1, 4, 13}, [3]int{2, 3, 7}), []impl.Load{{Layers: []int{0}, H: 4, Gram: 13}, {Layers: []int{1}, H: 3, Gram: 7}}},
		{"a weight ends a load of three", layersOfRows([3]int{1, 1, 9}, [3]int{1, 1, 9}, [3]int{1, 1, 2}, [3]int{1, 1, 1}), []impl.Load{{Layers: []int{0, 1, 2}, H: 3, Gram: 20}, {Layers: []int{3}, H: 1, Gram: 1}}},
		{"room on an earlier one alone, by height", layersOfRows([3]int{1, 2, 1}, [3]int{1, 5, 1}, [3]int{1, 4, 1}),
			[]impl.Load{{Layers: []int{0}, H: 2, Gram: 1}, {Layers: []int{1}, H: 5, Gram: 1}, {Layers: []int{2}, H: 4, Gram: 1}}},
		{"room on an earlier one alone, by weight", layersOfRows([3]int{1, 1, 5}, [3]int{1, 1, 19}, [3]int{1, 1, 3}, [3]int{1, 1, 17}),
			[]impl.Load{{Layers: []int{0}, H: 1, Gram: 5}, {Layers: []int{1}, H: 1, Gram: 19}, {Layers: []int{2, 3}, H: 2, Gram: 20}}},
		{"room on an earlier one and on the last", layersOfRows([3]int{1, 2, 1}, [3]int{1, 5, 1}, [3]int{1, 1, 1}), []impl.Load{{Layers: []int{0}, H: 2, Gram: 1}, {Layers: []int{1, 2}, H: 6, Gram: 2}}},
	}
	for _, c := range cases {
		if got := impl.LoadsOf(rowPallet(), c.list); !sameLoads(got, c.want) {
			t.Errorf("%s: LoadsOf = %v, want %v", c.name, got, c.want)
		}
		checkLoads(t, rowPallet(), c.list)
	}
}

// TestStackIsMet has two shelves of each depth and each weight: in one layer, or
// in two; and two layers of each height and each weight.
func TestStackIsMet(t *testing.T) {
	for a := 1; a <= 8; a++ {
		for b := 1; b <= 8; b++ {
			for g := 1; g <= 20; g++ {
				for h := 1; h <= 20; h++ {
					list := shelvesOfRows([3]int{a, 1, g}, [3]int{b, 1, h})
					if got := impl.LayersOf(rowPallet(), list); (len(got) == 1) != (a+b <= 8 && g+h <= 20) {
						t.Errorf("LayersOf %v = %v", list, got)
					}
					if a > 6 || b > 6 {
						continue
					}
					on := layersOfRows([3]int{1, a, g}, [3]int{1, b, h})
					if got := impl.LoadsOf(rowPallet(), on); (len(got) == 1) != (a+b <= 6 && g+h <= 20) {
						t.Errorf("LoadsOf %v = %v", on, got)
					}
				}
			}
		}
	}
	for n, want := range map[int]int{1: 1, 1999: 1, 2000: 1, 2001: 2, 4000: 2, 4001: 3} {
		least, layers := slices.Repeat([]impl.Shelf{{D: 1, H: 1, Gram: 1}}, n), slices.Repeat([]impl.Layer{{D: 1, H: 1, Gram: 1}}, n)
		for _, p := range []impl.Pallet{{W: 1, D: 2000, H: 1, Gram: 100000}, {W: 1, D: 2000, H: 1, Gram: 2000}} {
			if got := impl.LayersOf(p, least); len(got) != want {
				t.Errorf("%d of the least are in %d layers of %v, want %d", n, len(got), p, want)
			}
		}
		for _, p := range []impl.Pallet{{W: 1, D: 1, H: 2000, Gram: 100000}, {W: 1, D: 1, H: 2000, Gram: 2000}} {
			if got := impl.LoadsOf(p, layers); len(got) != want {
				t.Errorf("%d of the least are in %d loads of %v, want %d", n, len(got), p, want)
			}
		}
	}
	rows := slices.Repeat([][3]int{{1, 1, 50000}}, 5)
	for gram, want := range map[int]int{100000: 3, 99999: 5} {
		p := impl.Pallet{W: 1, D: 2000, H: 2000, Gram: gram}
		if a, b := checkLayers(t, p, shelvesOfRows(rows...)), checkLoads(t, p, layersOfRows(rows...)); len(a) != want || len(b) != want {
			t.Errorf("five of 50000 are in %d layers and %d loads where %d are borne, want %d", len(a), len(b), gram, want)
		}
	}
}

// TestTwoWouldNotHaveFoundRoom is promise 11: over each list of up to four of few
// measures, and over many longer ones.
func TestTwoWouldNotHaveFoundRoom(t *testing.T) {
	for _, p := range []impl.Pallet{{W: 1, D: 4, H: 3, Gram: 100}, {W: 1, D: 100, H: 100, Gram: 3}, {W: 1, D: 5, H: 4, Gram: 4}} {
		for n := range 13 * 13 * 13 * 13 {
			rows := [][3]int{}
			for _, k := range []int{n % 13, n / 13 % 13, n / 169 % 13, n / 2197} {
				if k < 12 {
					rows = append(rows, [3]int{1 + k%3, 1 + k/3%2, 1 + k/6})
				}
			}
			if len(rows) == 4 || n%13 == 12 {
				checkLayers(t, p, shelvesOfRows(rows...))
				checkLoads(t, p, layersOfRows(rows...))
			}
		}
	}
	seed := 11
	next := func(n int) int {
		seed = (seed*1103515245 + 12345) & (1<<31 - 1)
		return seed >> 12 % n
	}
	layers, loads := map[int]int{}, map[int]int{}
	for n := range 4000 {
		p := impl.Pallet{W: 1 + next(20), D: 1 + next(20), H: 1 + next(20), Gram: 1 + next(40)}
		if n%2 == 0 {
			p.Gram = 100000
		}
		rows := [][3]int{}
		for range next(30) {
			rows = append(rows, [3]int{1 + next(p.D), 1 + next(p.H), 1 + next(min(p.Gram, 40))})
		}
		layers[min(len(checkLayers(t, p, shelvesOfRows(rows...))), 6)]++
		loads[min(len(checkLoads(t, p, layersOfRows(rows...))), 6)]++
		checkStack(t, p, shelvesOfRows(rows...))
	}
	if len(layers) != 7 || len(loads) != 7 {
		t.Errorf("so many had so many layers: %v, and loads: %v", layers, loads)
	}
}

// TestStackOfOrders goes from orders over their boxes and shelves to the loads:
// what Shelves tells of boxes that are as they must be is so, too, and so are
// the layers.
func TestStackOfOrders(t *testing.T) {
	orders := []impl.Request{soundRequest(), mixedRequest(), greatestRequest(), leastRequest(), pricedRequest([3]int{5, 9, 3}, [2]int{6, 1}, [2]int{1, 10}, [2]int{2, 4})}
	for _, r := range orders {
		for _, way := range bothWays() {
			r.Way = way
			list, gram, told := []impl.Box{}, 0, 0
			for _, x := range impl.CartonsOf(r) {
				list = append(list, impl.BoxOf(r, x))
				gram += impl.Gross(r, x)
			}
			loads := checkStack(t, r.Pallet, impl.Shelves(r.Pallet, list))
			for _, l := range loads {
				told += l.Gram
			}
			if len(loads) == 0 || told != gram {
				t.Errorf("the loads of %v weigh %d, want %d: %v", r, told, gram, loads)
			}
		}
	}
}

// TestStackOfWrongOnes has one shelf or layer among many that isn't as it must
// be, wherever it stands, and one pallet that isn't.
func TestStackOfWrongOnes(t *testing.T) {
	for i, part := range shelfParts() {
		other := stackParts()[i]
		for _, n := range append(wildNumbers()[2:], 0, part.most+1, -part.most) {
			for at := range 12 {
				shelves, layers := slices.Repeat([]impl.Shelf{rightShelf()}, 12), slices.Repeat([]impl.Layer{rightLayer()}, 12)
				part.set(&shelves[at], n)
				other.set(&layers[at], n)
				for _, from := range []int{0, at} {
					for _, to := range []int{at + 1, 12} {
						checkNoLayers(t, "a shelf with "+part.name, rowPallet(), shelves[from:to])
						checkNoLoads(t, "a layer with "+other.name, rowPallet(), layers[from:to])
					}
				}
			}
		}
	}
	for _, part := range palletParts() {
		for _, n := range append(wildNumbers()[2:], 0, part.most+1, -part.most) {
			if part.name == "Gram" && n == 2001 {
				continue
			}
			p := rowPallet()
			part.set(&p, n)
			for _, rows := range [][][3]int{nil, {{1, 1, 1}}, {{0, 0, 0}}, {{8, 6, 20}}, slices.Repeat([][3]int{{3, 2, 5}}, 12)} {
				checkNoLayers(t, "a pallet with "+part.name, p, shelvesOfRows(rows...))
				checkNoLoads(t, "a pallet with "+part.name, p, layersOfRows(rows...))
			}
			checkNoLayers(t, "no shelves on a pallet with "+part.name, p, nil)
			checkNoLoads(t, "no layers on a pallet with "+part.name, p, nil)
		}
	}
}

// TestStackAnyNumbers puts any two numbers into a shelf, a layer and a pallet.
func TestStackAnyNumbers(t *testing.T) {
	numbers := append(wildNumbers(), 2, 3, 5, 6, 8, 10, 20, 21, 2000, 100000)
	for i, part := range shelfParts() {
		for _, other := range palletParts() {
			for _, n := range numbers {
				for _, m := range numbers {
					p, shelves, layers := rowPallet(), slices.Repeat([]impl.Shelf{rightShelf()}, 4), slices.Repeat([]impl.Layer{rightLayer()}, 4)
					other.set(&p, m)
					part.set(&shelves[2], n)
					stackParts()[i].set(&layers[2], n)
					if shelvesOkWanted(p, shelves) {
						checkLayers(t, p, shelves)
					} else {
						checkNoLayers(t, "any numbers", p, shelves)
					}
					if stacksOkWanted(p, layers) {
						checkLoads(t, p, layers)
					} else {
						checkNoLoads(t, "any numbers", p, layers)
					}
				}
			}
		}
	}
}

// TestStackLongLists has lists far longer than those of an order.
func TestStackLongLists(t *testing.T) {
	p := impl.Pallet{W: 1, D: 2000, H: 2000, Gram: 100000}
	rows := append(slices.Repeat([][3]int{{1, 1, 1}}, 50000), slices.Repeat([][3]int{{1, 1, 1}, {2000, 2000, 100000}}, 25000)...)
	shelves, layers := shelvesOfRows(rows...), layersOfRows(rows...)
	a, b := impl.LayersOf(p, shelves), impl.LoadsOf(p, layers)
	if len(a) != 50025 || len(a[24].Shelves) != 2000 || a[24].D != 2000 || a[24].Gram != 2000 || !slices.Equal(a[50024].Shelves, []int{99999}) {
		t.Errorf("of many shelves there are %d layers", len(a))
	}
	if len(b) != 50025 || len(b[24].Layers) != 2000 || b[24].H != 2000 || b[24].Gram != 2000 || !slices.Equal(b[50024].Layers, []int{99999}) {
		t.Errorf("of many layers there are %d loads", len(b))
	}
	shelves[99999].H, layers[99999].D = 2001, 2001
	checkNoLayers(t, "the last of many", p, shelves)
	checkNoLoads(t, "the last of many", p, layers)
}

// TestStackWritesNothing looks at the lists and at the spare room behind them.
func TestStackWritesNothing(t *testing.T) {
	rows := [][3]int{{3, 1, 1}, {4, 2, 2}, {2, 5, 3}, {5, 3, 4}, {1, 4, 5}}
	shelves := append(make([]impl.Shelf, 0, 9), shelvesOfRows(rows...)...)
	layers := append(make([]impl.Layer, 0, 9), layersOfRows(rows...)...)
	shelves[:9][6].W, layers[:9][6].D = 77, 77
	for i := range rows {
		shelves[i].List, layers[i].Shelves = append(make([]int, 0, 5), i, -1), append(make([]int, 0, 5), i, -1)
		shelves[i].List[:5][3], layers[i].Shelves[:5][3] = 88, 88
	}
	wasShelves, wasLayers := slices.Clone(shelves[:9]), slices.Clone(layers[:9])
	impl.ShelvesOk(rowPallet(), shelves)
	impl.StacksOk(rowPallet(), layers)
	for i := range impl.LayersOf(rowPallet(), shelves) {
		spoil(impl.LayersOf(rowPallet(), shelves)[i].Shelves)
	}
	for i := range impl.LoadsOf(rowPallet(), layers) {
		spoil(impl.LoadsOf(rowPallet(), layers)[i].Layers)
	}
	if !sameShelves(wasShelves, shelves[:9]) || !sameLayers(wasLayers, layers[:9]) {
		t.Error("an argument was written into")
	}
	for i := range rows {
		want := []int{i, -1, 0, 88, 0}
		if !slices.Equal(shelves[i].List[:5], want) || !slices.Equal(layers[i].Shelves[:5], want) {
			t.Errorf("a list of places was written into: %v, %v", shelves[i].List[:5], layers[i].Shelves[:5])
		}
	}
}

// TestStackSharesNothing writes over each list of places, and looks at the
// others and at what is told of the same shelves and layers then.
func TestStackSharesNothing(t *testing.T) {
	rows := slices.Repeat([][3]int{{3, 2, 1}, {4, 1, 2}, {6, 3, 3}, {1, 2, 1}}, 4)
	shelves, layers := shelvesOfRows(rows...), layersOfRows(rows...)
	wantLayers, wantLoads := impl.LayersOf(rowPallet(), shelves), impl.LoadsOf(rowPallet(), layers)
	if len(wantLayers) < 5 || len(wantLoads) < 5 {
		t.Fatalf("few layers, or loads: %v, %v", wantLayers, wantLoads)
	}
	for i := range wantLayers {
		got := impl.LayersOf(rowPallet(), shelves)
		spoil(got[i].Shelves)
		for j := range got {
			if j != i && !slices.Equal(got[j].Shelves, wantLayers[j].Shelves) {
				t.Errorf("writing over layer %d makes layer %d %v", i, j, got[j])
			}
		}
		clear(got[:cap(got)])
	}
	for i := range wantLoads {
		got := impl.LoadsOf(rowPallet(), layers)
		spoil(got[i].Layers)
		for j := range got {
			if j != i && !slices.Equal(got[j].Layers, wantLoads[j].Layers) {
				t.Errorf("writing over load %d makes load %d %v", i, j, got[j])
			}
		}
		clear(got[:cap(got)])
	}
	if a, b := impl.LayersOf(rowPallet(), shelves), impl.LoadsOf(rowPallet(), layers); !sameLayers(a, wantLayers) || !sameLoads(b, wantLoads) {
		t.Errorf("an answer shares memory: %v, %v", a, b)
	}
}

// TestStackKeepsNothing turns the shelves, the layers and the pallet behind a
// call: what is told then is told of them as they are.
func TestStackKeepsNothing(t *testing.T) {
	p, shelves, layers := rowPallet(), slices.Repeat([]impl.Shelf{rightShelf()}, 5), slices.Repeat([]impl.Layer{rightLayer()}, 5)
	if a, b := checkLayers(t, p, shelves), checkLoads(t, p, layers); len(a) != 3 || len(b) != 3 {
		t.Errorf("layers %v, loads %v", a, b)
	}
	shelves[1].D, layers[1].H = 5, 3
	layers[0].H = 4
	if a, b := checkLayers(t, p, shelves), checkLoads(t, p, layers); a[0].D != 8 || b[0].H != 4 {
		t.Errorf("of deeper and higher ones: layers %v, loads %v", a, b)
	}
	p.Gram = 9
	if a, b := checkLayers(t, p, shelves), checkLoads(t, p, layers); len(a) != 5 || len(b) != 5 {
		t.Errorf("on a weaker pallet: layers %v, loads %v", a, b)
	}
	checkNoLayers(t, "then wrong", impl.Pallet{}, shelves)
	checkNoLoads(t, "then wrong", impl.Pallet{}, layers)
	checkLayers(t, p, nil)
	checkLoads(t, p, nil)
	checkLayers(t, p, shelves)
	checkLoads(t, p, layers)
}
