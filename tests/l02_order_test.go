package tests

import (
	"math"
	"slices"
	"testing"

	"loop.example/g00489/impl"
)

func rightItem() impl.Item {
	return impl.Item{Id: 1, W: 5, H: 6, D: 8, Gram: 30, Class: 1, Count: 2}
}

func rightType() impl.Type {
	return impl.Type{Id: 7, W: 10, H: 11, D: 12, Tare: 5, Gram: 100, Cost: 9}
}

func rightPallet() impl.Pallet {
	return impl.Pallet{W: 20, D: 21, H: 30, Gram: 1000}
}

func rightRequest() impl.Request {
	return impl.Request{
		Way: impl.WyFirst, Pallet: rightPallet(), Classes: 2,
		Pairs: []impl.Pair{{A: 0, B: 0}, {A: 1, B: 1}, {A: 0, B: 1}},
		Types: []impl.Type{rightType(), {Id: 8, W: 6, H: 6, D: 6, Tare: 2, Gram: 60, Cost: 4}}, Master: 7,
		Items: []impl.Item{rightItem(), {Id: 2, W: 2, H: 3, D: 4, Gram: 10, Class: 0, Count: 3}},
	}
}

// numberPart is a number of something, with the least and the most it may be.
type numberPart[T any] struct {
	name  string
	least int
	most  int
	set   func(x *T, n int)
}

// itemParts, typeParts and palletParts write the bounds out as the document
// does, so that a constant that is another one is seen.
func itemParts() []numberPart[impl.Item] {
	return []numberPart[impl.Item]{
		{"Id", 0, 999, func(x *impl.Item, n int) { x.Id = n }},
		{"W", 1, 2000, func(x *impl.Item, n int) { x.W = n }},
		{"H", 1, 2000, func(x *impl.Item, n int) { x.H = n }},
		{"D", 1, 2000, func(x *impl.Item, n int) { x.D = n }},
		{"Gram", 1, 100000, func(x *impl.Item, n int) { x.Gram = n }},
		{"Class", 0, 3, func(x *impl.Item, n int) { x.Class = n }},
		{"Count", 1, 6, func(x *impl.Item, n int) { x.Count = n }},
	}
}

func typeParts() []numberPart[impl.Type] {
	return []numberPart[impl.Type]{
		{"Id", 0, 999, func(x *impl.Type, n int) { x.Id = n }},
		{"W", 1, 2000, func(x *impl.Type, n int) { x.W = n }},
		{"H", 1, 2000, func(x *impl.Type, n int) { x.H = n }},
		{"D", 1, 2000, func(x *impl.Type, n int) { x.D = n }},
		{"Tare", 0, 100000, func(x *impl.Type, n int) { x.Tare = n }},
		{"Gram", 1, 100000, func(x *impl.Type, n int) { x.Gram = n }},
		{"Cost", 0, 100000, func(x *impl.Type, n int) { x.Cost = n }},
	}
}

func palletParts() []numberPart[impl.Pallet] {
	return []numberPart[impl.Pallet]{
		{"W", 1, 2000, func(x *impl.Pallet, n int) { x.W = n }},
		{"D", 1, 2000, func(x *impl.Pallet, n int) { x.D = n }},
		{"H", 1, 2000, func(x *impl.Pallet, n int) { x.H = n }},
		{"Gram", 1, 100000, func(x *impl.Pallet, n int) { x.Gram = n }},
	}
}

func requestParts() []numberPart[impl.Request] {
	return []numberPart[impl.Request]{
		{"Way", 0, 1, func(x *impl.Request, n int) { x.Way = n }},
		{"Classes", 1, 4, func(x *impl.Request, n int) { x.Classes = n }},
		{"Master", 0, 999, func(x *impl.Request, n int) { x.Master = n }},
		{"first Pair's A", 0, 3, func(x *impl.Request, n int) { x.Pairs[0].A = n }},
		{"first Pair's B", 0, 3, func(x *impl.Request, n int) { x.Pairs[0].B = n }},
		{"last Pair's A", 0, 3, func(x *impl.Request, n int) { x.Pairs[2].A = n }},
		{"last Pair's B", 0, 3, func(x *impl.Request, n int) { x.Pairs[2].B = n }},
	}
}

// checkBounds meets each bound exactly, passes it by one, and goes far beyond,
// where a sum or a product would go round.
func checkBounds[T any](t *testing.T, what string, fresh func() T, parts []numberPart[T], ok func(T) bool) {
	t.Helper()
	if !ok(fresh()) {
		t.Errorf("%s: an ordinary one is refused", what)
	}
	for _, part := range parts {
		for _, n := range []int{part.least, (part.least + part.most) / 2, part.most} {
			x := fresh()
			part.set(&x, n)
			if !ok(x) {
				t.Errorf("%s with %s %d is refused", what, part.name, n)
			}
		}
		far := []int{-1 << 62, 1 << 62, 1 << 32, 1<<32 + part.least, 1<<63 - 1, math.MinInt64, math.MinInt64 + part.least, -part.most - 1}
		for _, n := range append(far, part.least-1, part.most+1) {
			x := fresh()
			part.set(&x, n)
			if ok(x) {
				t.Errorf("%s with %s %d is taken", what, part.name, n)
			}
		}
	}
}

func TestItemOk(t *testing.T) {
	checkBounds(t, "Item", rightItem, itemParts(), impl.ItemOk)
	if !impl.ItemOk(impl.Item{W: 1, H: 1, D: 1, Gram: 1, Count: 1}) {
		t.Error("the least of all is refused")
	}
	if !impl.ItemOk(impl.Item{Id: 999, W: 2000, H: 2000, D: 2000, Gram: 100000, Class: 3, Count: 6}) {
		t.Error("the greatest of all is refused")
	}
	if impl.ItemOk(impl.Item{}) {
		t.Error("the zero value is taken")
	}
}

func TestTypeOk(t *testing.T) {
	checkBounds(t, "Type", rightType, typeParts(), impl.TypeOk)
	if !impl.TypeOk(impl.Type{W: 1, H: 1, D: 1, Gram: 1}) {
		t.Error("the least of all is refused")
	}
	if !impl.TypeOk(impl.Type{Id: 999, W: 2000, H: 2000, D: 2000, Tare: 100000, Gram: 100000, Cost: 100000}) {
		t.Error("the greatest of all is refused")
	}
	if impl.TypeOk(impl.Type{}) {
		t.Error("the zero value is taken")
	}
}

func TestPalletOk(t *testing.T) {
	checkBounds(t, "Pallet", rightPallet, palletParts(), impl.PalletOk)
	if !impl.PalletOk(impl.Pallet{W: 1, D: 1, H: 1, Gram: 1}) {
		t.Error("the least of all is refused")
	}
	if !impl.PalletOk(impl.Pallet{W: 2000, D: 2000, H: 2000, Gram: 100000}) {
		t.Error("the greatest of all is refused")
	}
	if impl.PalletOk(impl.Pallet{}) {
		t.Error("the zero value is taken")
	}
}

func TestBoundsOkNumbers(t *testing.T) {
	checkBounds(t, "Request", rightRequest, requestParts(), impl.BoundsOk)
}

// TestBoundsOkParts puts each wrong number into the first and into the last of
// each list, so that one that is only looked at in part is seen.
func TestBoundsOkParts(t *testing.T) {
	for place := range 2 {
		items := func(x impl.Item) bool {
			r := rightRequest()
			r.Items[place] = x
			return impl.BoundsOk(r)
		}
		checkBounds(t, "Request's Item", rightItem, itemParts(), items)
		types := func(x impl.Type) bool {
			r := rightRequest()
			r.Types[place] = x
			return impl.BoundsOk(r)
		}
		checkBounds(t, "Request's Type", rightType, typeParts(), types)
	}
	pallets := func(x impl.Pallet) bool {
		r := rightRequest()
		r.Pallet = x
		return impl.BoundsOk(r)
	}
	checkBounds(t, "Request's Pallet", rightPallet, palletParts(), pallets)
}

func TestBoundsOkLengths(t *testing.T) {
	one := rightItem()
	one.Count = 1
	for n := range 40 {
		r := rightRequest()
		r.Pairs = slices.Repeat([]impl.Pair{{A: 3, B: 3}}, n)
		if got, want := impl.BoundsOk(r), n <= 16; got != want {
			t.Errorf("%d pairs: %v, want %v", n, got, want)
		}
		r = rightRequest()
		r.Types = slices.Repeat([]impl.Type{rightType()}, n)
		if got, want := impl.BoundsOk(r), n >= 1 && n <= 5; got != want {
			t.Errorf("%d types: %v, want %v", n, got, want)
		}
		r = rightRequest()
		r.Items = slices.Repeat([]impl.Item{one}, n)
		if got, want := impl.BoundsOk(r), n <= 8; got != want {
			t.Errorf("%d items: %v, want %v", n, got, want)
		}
	}
}

// TestBoundsOkUnits has counts that are each right, and some of them too many
// together; and wrong ones that would come to few, were they only added.
func TestBoundsOkUnits(t *testing.T) {
	cases := []struct {
		counts []int
		want   bool
	}{
		{nil, true}, {[]int{6}, true}, {[]int{7}, false}, {[]int{12}, false},
		{[]int{6, 6}, true}, {[]int{6, 6, 1}, false}, {[]int{1, 6, 6}, false}, {[]int{6, 5, 1}, true}, {[]int{6, 5, 2}, false},
		{[]int{4, 4, 4}, true}, {[]int{5, 4, 4}, false}, {[]int{4, 4, 5}, false},
		{[]int{1, 1, 1, 1, 1, 1, 1, 5}, true}, {[]int{1, 1, 1, 1, 1, 1, 1, 6}, false}, {[]int{2, 2, 2, 2, 2, 2, 1, 1}, false},
		{[]int{6, 6, 6, 6, 6, 6, 6, 6}, false}, {[]int{1, 1, 1, 1, 1, 1, 1, 1, 1}, false},
		{[]int{0}, false}, {[]int{6, 0}, false}, {[]int{6, -1, 6, 1}, false}, {[]int{6, 6, 1, -1}, false},
		{[]int{math.MaxInt64, math.MaxInt64, 6}, false}, {[]int{math.MinInt64, math.MinInt64}, false},
		{[]int{math.MaxInt64, math.MinInt64, 6}, false},
	}
	for _, c := range cases {
		r := rightRequest()
		r.Items = nil
		for i, n := range c.counts {
			x := rightItem()
			x.Id, x.Count = i, n
			r.Items = append(r.Items, x)
		}
		if got := impl.BoundsOk(r); got != c.want {
			t.Errorf("counts %v: %v, want %v", c.counts, got, c.want)
		}
	}
}

// TestBoundsOkNoMore asks for what only later chapters look at.
func TestBoundsOkNoMore(t *testing.T) {
	r := rightRequest()
	r.Master, r.Classes = 500, 1
	r.Types = []impl.Type{rightType(), rightType()}
	r.Items = []impl.Item{rightItem(), rightItem()}
	r.Items[0].W = 2000
	if !impl.BoundsOk(r) {
		t.Error("names, kinds and sizes against each other are no matter of bounds")
	}
	r.Pairs, r.Items = []impl.Pair{}, []impl.Item{}
	if !impl.BoundsOk(r) {
		t.Error("no pairs and no items are within bounds")
	}
	if impl.BoundsOk(impl.Request{}) {
		t.Error("the zero value is taken")
	}
}

func TestVolume(t *testing.T) {
	cases := []struct {
		w, h, d, want int
	}{
		{5, 5, 8, 200}, {2, 3, 7, 42}, {1, 1, 1, 1}, {0, 0, 0, 0}, {0, 2000, 2000, 0}, {2000, 0, 2000, 0}, {2000, 2000, 0, 0},
		{2000, 2000, 2000, 8000000000}, {2000, 1, 1, 2000}, {1999, 2000, 2000, 7996000000},
		{2001, 1, 1, 0}, {1, 2001, 1, 0}, {1, 1, 2001, 0}, {2001, 2001, 2001, 0},
		{-1, 1, 1, 0}, {1, -1, 1, 0}, {1, 1, -1, 0}, {-1, -1, 1, 0}, {-2, 3, -4, 0}, {1, -5, -5, 0},
		{math.MaxInt64, math.MaxInt64, 1, 0}, {math.MinInt64, 1, 1, 0}, {1, math.MinInt64, -1, 0}, {1 << 32, 1 << 32, 7, 0},
		{math.MaxInt64, 3, 5, 0}, {3, 5, math.MaxInt64, 0},
	}
	for _, c := range cases {
		if got := impl.Volume(c.w, c.h, c.d); got != c.want {
			t.Errorf("Volume(%d, %d, %d) = %d, want %d", c.w, c.h, c.d, got, c.want)
		}
	}
}

// checkOthers turns each number of each part by one and asks whether that is
// seen, from either side.
func checkOthers[T any](t *testing.T, what string, parts []numberPart[T], put func(r *impl.Request) *T) {
	t.Helper()
	for _, part := range parts {
		a, b := rightRequest(), rightRequest()
		part.set(put(&a), 3)
		part.set(put(&b), 2)
		if impl.RequestSame(a, b) || impl.RequestSame(b, a) {
			t.Errorf("another %s of %s isn't seen", part.name, what)
		}
		part.set(put(&b), 3)
		if !impl.RequestSame(a, b) || !impl.RequestSame(b, a) {
			t.Errorf("the same %s of %s isn't seen", part.name, what)
		}
	}
}

func TestRequestSameEachNumber(t *testing.T) {
	checkOthers(t, "the order", requestParts(), func(r *impl.Request) *impl.Request { return r })
	checkOthers(t, "the pallet", palletParts(), func(r *impl.Request) *impl.Pallet { return &r.Pallet })
	for place := range 2 {
		checkOthers(t, "an item", itemParts(), func(r *impl.Request) *impl.Item { return &r.Items[place] })
		checkOthers(t, "a type", typeParts(), func(r *impl.Request) *impl.Type { return &r.Types[place] })
	}
}

func TestRequestSameLists(t *testing.T) {
	turns := []struct {
		name string
		turn func(r *impl.Request)
	}{
		{"one pair more", func(r *impl.Request) { r.Pairs = append(r.Pairs, impl.Pair{}) }},
		{"one type more", func(r *impl.Request) { r.Types = append(r.Types, impl.Type{}) }},
		{"one item more", func(r *impl.Request) { r.Items = append(r.Items, impl.Item{}) }},
		{"one pair less", func(r *impl.Request) { r.Pairs = r.Pairs[:2] }},
		{"one type less", func(r *impl.Request) { r.Types = r.Types[:1] }},
		{"one item less", func(r *impl.Request) { r.Items = r.Items[:1] }},
		{"no pairs", func(r *impl.Request) { r.Pairs = nil }},
		{"no types", func(r *impl.Request) { r.Types = nil }},
		{"no items", func(r *impl.Request) { r.Items = nil }},
		{"pairs in another order", func(r *impl.Request) { slices.Reverse(r.Pairs) }},
		{"types in another order", func(r *impl.Request) { slices.Reverse(r.Types) }},
		{"items in another order", func(r *impl.Request) { slices.Reverse(r.Items) }},
	}
	for _, x := range turns {
		r := rightRequest()
		x.turn(&r)
		if impl.RequestSame(r, rightRequest()) || impl.RequestSame(rightRequest(), r) {
			t.Errorf("%s: isn't seen", x.name)
		}
		again := rightRequest()
		x.turn(&again)
		if !impl.RequestSame(r, again) {
			t.Errorf("%s: isn't the same as itself", x.name)
		}
	}
}

func TestRequestSameEmptyAndNil(t *testing.T) {
	empty := impl.Request{Pairs: []impl.Pair{}, Types: make([]impl.Type, 0, 3), Items: []impl.Item{}}
	if !impl.RequestSame(empty, impl.Request{}) || !impl.RequestSame(impl.Request{}, empty) || !impl.RequestSame(empty, empty) {
		t.Error("an empty list and nil are not the same")
	}
}

// TestRequestSameAnyNumbers holds orders that are out of all bounds against
// each other; what is the same hangs on no bound.
func TestRequestSameAnyNumbers(t *testing.T) {
	wild := func() impl.Request {
		return impl.Request{Way: math.MinInt64, Classes: -1, Master: math.MaxInt64, Items: make([]impl.Item, 1000), Types: []impl.Type{{Id: -7}}}
	}
	other := wild()
	other.Items[999].Count = 1
	if !impl.RequestSame(wild(), wild()) || impl.RequestSame(wild(), other) {
		t.Error("orders out of bounds")
	}
}

// TestOrderWritesNothing looks at the lists and at the spare room behind them.
func TestOrderWritesNothing(t *testing.T) {
	r := rightRequest()
	r.Pairs = append(make([]impl.Pair, 0, 9), r.Pairs...)
	r.Types = append(make([]impl.Type, 0, 9), r.Types...)
	r.Items = append(make([]impl.Item, 0, 9), r.Items...)
	pairs, types, items := slices.Clone(r.Pairs[:9]), slices.Clone(r.Types[:9]), slices.Clone(r.Items[:9])
	impl.BoundsOk(r)
	impl.RequestSame(r, r)
	impl.RequestSame(rightRequest(), r)
	if !slices.Equal(pairs, r.Pairs[:9]) || !slices.Equal(types, r.Types[:9]) || !slices.Equal(items, r.Items[:9]) {
		t.Error("an argument was written into")
	}
}
