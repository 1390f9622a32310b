package tests

import (
	"math"
	"slices"
	"strings"
	"testing"
	"unsafe"

	"loop.example/g00489/impl"
)

func TestDigits(t *testing.T) {
	cases := []struct {
		n    int
		want string
	}{
		{0, "0"}, {7, "7"}, {10, "10"}, {-1, "-1"}, {-70, "-70"}, {999999, "999999"}, {1000000, "1000000"},
		{math.MaxInt64, "9223372036854775807"}, {math.MinInt64, "-9223372036854775808"},
	}
	for _, c := range cases {
		if got := impl.Digits(c.n); got != c.want {
			t.Errorf("Digits(%d) = %q, want %q", c.n, got, c.want)
		}
	}
}

func TestNumberTakesEachDigits(t *testing.T) {
	for want := 0; want <= 999999; want++ {
		if n, ok := impl.Number(impl.Digits(want)); n != want || !ok {
			t.Fatalf("Number(Digits(%d)) = %d, %v", want, n, ok)
		}
	}
}

func TestNumberRefuses(t *testing.T) {
	wrong := []string{
		"", " ", "-", "+", "-0", "-1", "+0", "+1", "00", "01", "012", "000001", "0000000",
		"1000000", "1000001", "9999999", "-999999", "9223372036854775807", "9223372036854775808",
		"18446744073709551616", "18446744073709551617", "-9223372036854775808",
		" 1", "1 ", "1 2", "1\n", "\t1", "1\x00", "\x00", "a", "1a", "a1", "/", ":", "1_0", "1,0", "1.0", "1e3",
		"0x1", "0b1", "0o7", "\u0663", "\uff11", "\xff", "1\xff", strings.Repeat("0", 100000), strings.Repeat("9", 100000),
	}
	for _, s := range wrong {
		if n, ok := impl.Number(s); n != 0 || ok {
			t.Errorf("Number(%.40q) = %d, %v, want 0, false", s, n, ok)
		}
	}
}

func TestNumberRefusesEachOtherByte(t *testing.T) {
	for b := range 256 {
		_, ok := impl.Number(string([]byte{byte(b)}))
		if want := b >= '0' && b <= '9'; ok != want {
			t.Errorf("Number of the byte %d: %v, want %v", b, ok, want)
		}
	}
}

func TestParts(t *testing.T) {
	cases := []struct {
		s    string
		by   byte
		want []string
	}{
		{"", ' ', []string{""}},
		{"", 0, []string{""}},
		{"a", ' ', []string{"a"}},
		{" ", ' ', []string{"", ""}},
		{"   ", ' ', []string{"", "", "", ""}},
		{"a b c", ' ', []string{"a", "b", "c"}},
		{" a  b ", ' ', []string{"", "a", "", "b", ""}},
		{"a,b c", ',', []string{"a", "b c"}},
		{"a\nb\n", '\n', []string{"a", "b", ""}},
		{"a\x00b", 0, []string{"a", "b"}},
		{"a\xffb\xff", 0xff, []string{"a", "b", ""}},
		{"\u00e9", 0xc3, []string{"", "\xa9"}},
		{"\u00e9", 0xe9, []string{"\u00e9"}},
	}
	for _, c := range cases {
		if got := impl.Parts(c.s, c.by); !slices.Equal(got, c.want) {
			t.Errorf("Parts(%q, %d) = %q, want %q", c.s, c.by, got, c.want)
		}
	}
}

func TestPartsTogetherAreTheText(t *testing.T) {
	s := "way first\npallet 1200 800 1500 900\n\x00\xff\u00e9 ,,"
	for b := range 256 {
		by := string([]byte{byte(b)})
		parts := impl.Parts(s, byte(b))
		if strings.Join(parts, by) != s || len(parts) != strings.Count(s, by)+1 {
			t.Errorf("Parts by the byte %d: %q", b, parts)
		}
	}
}

func TestPartsShareNothing(t *testing.T) {
	s := "ab cd ef"
	first, last := uintptr(unsafe.Pointer(unsafe.StringData(s))), uintptr(len(s)-1)
	for _, by := range []byte{' ', ','} {
		for _, part := range impl.Parts(s, by) {
			at := uintptr(unsafe.Pointer(unsafe.StringData(part)))
			if at >= first && at <= first+last {
				t.Errorf("the part %q by %q is a piece of the argument", part, by)
			}
		}
	}
}

// checkSorted holds an answer against the promise alone: each place once, keys
// in order, of equal keys the lesser place ahead.
func checkSorted(t *testing.T, name string, keys, places []int, wrongOrder func(a, b int) bool) {
	t.Helper()
	if len(places) != len(keys) {
		t.Fatalf("%s(%v) = %v: not as many places as keys", name, keys, places)
	}
	seen := make([]bool, len(keys))
	for i, p := range places {
		if p < 0 || p >= len(keys) || seen[p] {
			t.Fatalf("%s(%v) = %v: %d is not there once", name, keys, places, p)
		}
		seen[p] = true
		if i == 0 {
			continue
		}
		q := places[i-1]
		if wrongOrder(keys[q], keys[p]) || keys[q] == keys[p] && q > p {
			t.Fatalf("%s(%v) = %v: %d is ahead of %d", name, keys, places, q, p)
		}
	}
}

func checkBothSorts(t *testing.T, keys []int) {
	t.Helper()
	checkSorted(t, "SortUp", keys, impl.SortUp(keys), func(a, b int) bool { return a > b })
	checkSorted(t, "SortDown", keys, impl.SortDown(keys), func(a, b int) bool { return a < b })
}

func TestSortExamples(t *testing.T) {
	cases := []struct{ keys, up, down []int }{
		{nil, nil, nil},
		{[]int{}, nil, nil},
		{[]int{5}, []int{0}, []int{0}},
		{[]int{4, 4, 4}, []int{0, 1, 2}, []int{0, 1, 2}},
		{[]int{1, 2}, []int{0, 1}, []int{1, 0}},
		{[]int{3, 1, 2, 1}, []int{1, 3, 2, 0}, []int{0, 2, 1, 3}},
		{[]int{3, 1, 3, 5}, []int{1, 0, 2, 3}, []int{3, 0, 2, 1}},
		{[]int{0, math.MinInt64, math.MaxInt64, -1}, []int{1, 3, 0, 2}, []int{2, 0, 3, 1}},
	}
	for _, c := range cases {
		if got := impl.SortUp(c.keys); !slices.Equal(got, c.up) {
			t.Errorf("SortUp(%v) = %v, want %v", c.keys, got, c.up)
		}
		if got := impl.SortDown(c.keys); !slices.Equal(got, c.down) {
			t.Errorf("SortDown(%v) = %v, want %v", c.keys, got, c.down)
		}
	}
}

func TestSortAllShortLists(t *testing.T) {
	values := []int{math.MinInt64, -1, 0, 1, math.MaxInt64}
	var grow func(keys []int)
	grow = func(keys []int) {
		checkBothSorts(t, keys)
		if len(keys) == 5 {
			return
		}
		for _, v := range values {
			grow(append(slices.Clone(keys), v))
		}
	}
	grow(nil)
}

func TestSortLongListWithEqualKeys(t *testing.T) {
	for _, kinds := range []int{1, 2, 7, 100, 5000} {
		keys := make([]int, 5000)
		for i := range keys {
			keys[i] = i * 7919 % 4999 % kinds
		}
		checkBothSorts(t, keys)
	}
}

func TestSum(t *testing.T) {
	cases := []struct {
		list []int
		want int
	}{
		{nil, 0},
		{[]int{}, 0},
		{[]int{5}, 5},
		{[]int{5, -2, 4}, 7},
		{[]int{1000000000}, 1000000000},
		{[]int{-1000000000}, -1000000000},
		{[]int{1000000000, 1000000000, 1000000000}, 3000000000},
		{[]int{1000000001}, 0},
		{[]int{-1000000001}, 0},
		{[]int{1, 1000000001, 2, -1000000001, 4}, 7},
		{[]int{math.MaxInt64, 3, math.MinInt64}, 3},
	}
	for _, c := range cases {
		if got := impl.Sum(c.list); got != c.want {
			t.Errorf("Sum(%v) = %d, want %d", c.list, got, c.want)
		}
	}
}

// The room behind the list is looked at, too: an append inside would write there.
func TestListsAreNotWrittenInto(t *testing.T) {
	whole := []int{3, 1, 2, 1, 3, 77, 78, 79, 80, 81, 82, 83}
	before := slices.Clone(whole)
	keys := whole[:5]
	up, down := impl.SortUp(keys), impl.SortDown(keys)
	impl.Sum(keys)
	if !slices.Equal(whole, before) {
		t.Fatalf("the argument is %v, was %v", whole, before)
	}
	for i := range up {
		up[i] = -5
	}
	if !slices.Equal(whole, before) || !slices.Equal(down, []int{0, 4, 2, 1, 3}) {
		t.Error("an answer shares memory with the argument or with another answer")
	}
	if !slices.Equal(impl.SortUp(keys), []int{1, 3, 2, 0, 4}) {
		t.Error("a later answer hangs on what became of an earlier one")
	}
}
