package tests

import (
	"math"
	"regexp"
	"runtime"
	"slices"
	"strings"
	"testing"
	"time"

	"loop.example/g00489/impl"
)

// toldOrder has each number but once, so that two that change places are seen.
func toldOrder() impl.Request {
	return impl.Request{
		Way: impl.WyNext, Pallet: impl.Pallet{W: 11, D: 12, H: 13, Gram: 14}, Classes: 15,
		Pairs: []impl.Pair{{A: 16, B: 17}, {A: 18, B: 19}},
		Types: []impl.Type{{Id: 21, W: 22, H: 23, D: 24, Tare: 25, Gram: 26, Cost: 27}, {Id: 31, W: 32, H: 33, D: 34, Tare: 35, Gram: 36, Cost: 37}}, Master: 40,
		Items: []impl.Item{{Id: 41, W: 42, H: 43, D: 44, Gram: 45, Class: 46, Count: 47}, {Id: 51, W: 52, H: 53, D: 54, Gram: 55, Class: 56, Count: 57}},
	}
}

func toldLines() []string {
	return []string{
		"way next", "pallet 11 12 13 14", "classes 15", "with 16 17", "with 18 19",
		"type 21 22 23 24 25 26 27", "type 31 32 33 34 35 36 37", "master 40",
		"item 41 42 43 44 45 46 47", "item 51 52 53 54 55 56 57",
	}
}

func textOf(lines []string) string {
	if len(lines) == 0 {
		return ""
	}
	return strings.Join(lines, "\n") + "\n"
}

// kindLetters has a letter for each of lineShapes, the kinds of lines as the
// document writes them, in order.
const kindLetters = "wpchtmi"

var (
	lineShapes = shapesOf("way (first|next)", "pallet N N N N", "classes N", "with N N",
		"type N N N N N N N", "master N", "item N N N N N N N")
	wholeOrder      = regexp.MustCompile(`\Awpch*t*mi*\z`)
	orderAsItBegins = regexp.MustCompile(`\A(w(p(ch*t*(mi*)?)?)?)?\z`)
)

func shapesOf(shapes ...string) []*regexp.Regexp {
	made := []*regexp.Regexp{}
	for _, shape := range shapes {
		made = append(made, regexp.MustCompile(`\A`+strings.ReplaceAll(shape, "N", "(0|[1-9][0-9]{0,5})")+`\z`))
	}
	return made
}

// placeWanted is what ReadOrder is to tell beside the order, by the words of
// the document alone.
func placeWanted(s string) int {
	lines := strings.Split(s, "\n")
	tail := lines[len(lines)-1]
	lines = lines[:len(lines)-1]
	if len(lines) > 60 {
		return 60
	}
	signs := ""
	for i, line := range lines {
		sign := "?"
		for k, shape := range lineShapes {
			if shape.MatchString(line) {
				sign = kindLetters[k : k+1]
			}
		}
		signs += sign
		if !orderAsItBegins.MatchString(signs) {
			return i
		}
	}
	if !wholeOrder.MatchString(signs) || tail != "" {
		return len(lines)
	}
	return -1
}

// checkRead is promise 4 of any text: the place is the one that is wanted;
// a text that is read is that of its order; beside a place the order is zero.
func checkRead(t *testing.T, s string) {
	t.Helper()
	r, at := impl.ReadOrder(s)
	if want := placeWanted(s); at != want {
		t.Fatalf("ReadOrder(%.300q) tells %d, want %d", s, at, want)
	}
	if at == -1 && impl.OrderText(r) != s {
		t.Fatalf("ReadOrder(%.300q) is another order: %v", s, r)
	}
	if at != -1 && !impl.RequestSame(r, impl.Request{}) {
		t.Fatalf("ReadOrder(%.300q) tells %d, and not a zero order: %v", s, at, r)
	}
}

func checkPlace(t *testing.T, what string, s string, want int) {
	t.Helper()
	r, at := impl.ReadOrder(s)
	if at != want || at != -1 && !impl.RequestSame(r, impl.Request{}) {
		t.Errorf("%s: ReadOrder(%.300q) = %v, %d, want %d", what, s, r, at, want)
	}
}

func TestReadOrderEachPart(t *testing.T) {
	r, at := impl.ReadOrder(textOf(toldLines()))
	if at != -1 || !impl.RequestSame(r, toldOrder()) {
		t.Errorf("ReadOrder = %v, %d", r, at)
	}
	if got, want := impl.OrderText(toldOrder()), textOf(toldLines()); got != want {
		t.Errorf("OrderText = %q, want %q", got, want)
	}
}

// TestOrderIsReadAsItWas takes both ways, with none, one and several of each
// list, whether a later chapter would have anything against them or not.
func TestOrderIsReadAsItWas(t *testing.T) {
	told := toldOrder()
	for _, way := range []int{impl.WyFirst, impl.WyNext} {
		for pairs := range 4 {
			for types := range 4 {
				for items := range 4 {
					r := impl.Request{Way: way, Pallet: told.Pallet, Classes: told.Classes, Master: told.Master}
					r.Pairs = slices.Repeat(told.Pairs, 2)[:pairs]
					r.Types = slices.Repeat(told.Types, 2)[:types]
					r.Items = slices.Repeat(told.Items, 2)[:items]
					s := impl.OrderText(r)
					if strings.Count(s, "\n") != 4+pairs+types+items || strings.HasPrefix(s, "way first\n") != (way == impl.WyFirst) {
						t.Fatalf("OrderText(%v) = %q", r, s)
					}
					if back, at := impl.ReadOrder(s); at != -1 || !impl.RequestSame(back, r) {
						t.Fatalf("ReadOrder(%q) = %v, %d, want %v", s, back, at, r)
					}
				}
			}
		}
	}
	for _, r := range []impl.Request{{}, rightRequest(), {Way: impl.WyNext}} {
		if back, at := impl.ReadOrder(impl.OrderText(r)); at != -1 || !impl.RequestSame(back, r) {
			t.Errorf("%v is read as %v, %d", r, back, at)
		}
	}
	if got := impl.OrderText(impl.Request{}); got != "way first\npallet 0 0 0 0\nclasses 0\nmaster 0\n" {
		t.Errorf("OrderText of the zero order is %q", got)
	}
}

func TestReadOrderEnds(t *testing.T) {
	least := "way first\npallet 1 2 3 4\nclasses 1\nmaster 7\n"
	cases := []struct {
		name string
		s    string
		want int
	}{
		{"the least of all", least, -1},
		{"the empty text", "", 0},
		{"a byte 10 alone", "\n", 0},
		{"one line without a byte 10", "way first", 0},
		{"no byte 10 behind the last line", strings.TrimSuffix(least, "\n"), 3},
		{"an empty line behind", least + "\n", 4},
		{"an empty line ahead", "\n" + least, 0},
		{"a piece of a line behind", least + "x", 4},
		{"a blank behind", least + " ", 4},
		{"a right line behind that has no byte 10", least + "item 1 1 1 1 1 0 1", 4},
		{"master behind master", least + "master 7\n", 4},
		{"behind the way", "way next\n", 1},
		{"behind the pallet", "way next\npallet 1 2 3 4\n", 2},
		{"behind the classes", "way next\npallet 1 2 3 4\nclasses 1\n", 3},
		{"behind a pair", "way next\npallet 1 2 3 4\nclasses 1\nwith 0 0\n", 4},
		{"behind a type", "way next\npallet 1 2 3 4\nclasses 1\nwith 0 0\ntype 1 1 1 1 1 1 1\n", 5},
		{"too early, and no byte 10", "way next\npallet 1 2 3 4\nclasses 1", 2},
		{"a wrong line, and no byte 10", "way next\npallet 1 2 3\nclasses 1\nmaster 7", 1},
		{"a wrong line, and too early", "way next\nx\n", 1},
		{"the first of two wrong lines", "way next\npallet 1 2 3 4\nclasses x\nwith 0\nmaster 7\n", 2},
		{"a wrong line ahead of one out of order", "way next\npallet x\nway next\n", 1},
		{"one out of order ahead of a wrong line", "way next\nway next\npallet x\n", 1},
		{"a byte 13", "way first\r\npallet 1 2 3 4\r\nclasses 1\r\nmaster 7\r\n", 0},
		{"a mark ahead", "\ufeff" + least, 0},
	}
	for _, c := range cases {
		checkPlace(t, c.name, c.s, c.want)
		checkRead(t, c.s)
	}
}

// TestReadOrderCutOff ends the text behind each of its bytes.
func TestReadOrderCutOff(t *testing.T) {
	s := textOf(toldLines())
	master := strings.Index(s, "item")
	for n := range len(s) + 1 {
		want := strings.Count(s[:n], "\n")
		if n >= master && s[n-1] == '\n' {
			want = -1
		}
		checkPlace(t, "cut off", s[:n], want)
	}
}

// TestReadOrderEachSequence takes each text of up to six lines of any kind, one
// that is unknown among them.
func TestReadOrderEachSequence(t *testing.T) {
	kinds := []string{"way first\n", "pallet 1 2 3 4\n", "classes 1\n", "with 0 0\n", "type 1 2 3 4 5 6 7\n", "master 7\n", "item 1 2 3 4 5 0 1\n", "drop 1\n"}
	var grow func(s string, n int)
	grow = func(s string, n int) {
		checkRead(t, s)
		if n == 6 {
			return
		}
		// Behind a wrong line nothing is told any more: one more line is enough.
		if at := placeWanted(s); at != -1 && at < n-1 {
			return
		}
		for _, kind := range kinds {
			grow(s+kind, n+1)
		}
	}
	grow("", 0)
}

// TestReadOrderOtherOrder changes each two lines, and puts each line a second
// time behind each other one.
func TestReadOrderOtherOrder(t *testing.T) {
	lines := toldLines()
	for i := range lines {
		for k := range lines {
			turned := slices.Clone(lines)
			turned[i], turned[k] = turned[k], turned[i]
			checkRead(t, textOf(turned))
			checkRead(t, textOf(slices.Insert(slices.Clone(lines), k, lines[i])))
		}
		checkRead(t, textOf(slices.Delete(slices.Clone(lines), i, i+1)))
		checkRead(t, textOf(slices.Insert(slices.Clone(lines), i, "")))
	}
}

func linesWith(n int) []string {
	lines := []string{"way first", "pallet 1 2 3 4", "classes 1", "master 7"}
	for len(lines) < n {
		lines = append(lines, "item 1 2 3 4 5 0 1")
	}
	return lines
}

func TestReadOrderMaxLines(t *testing.T) {
	if impl.MaxLines != 60 {
		t.Errorf("MaxLines is %d", impl.MaxLines)
	}
	sixty, more := linesWith(60), linesWith(61)
	checkPlace(t, "59 lines", textOf(linesWith(59)), -1)
	checkPlace(t, "60 lines", textOf(sixty), -1)
	checkPlace(t, "61 lines", textOf(more), 60)
	checkPlace(t, "1000 lines", textOf(linesWith(1000)), 60)
	checkPlace(t, "60 lines and a piece of one", textOf(sixty)+"item 1", 60)
	checkPlace(t, "61 lines, the last one without its byte 10", strings.TrimSuffix(textOf(more), "\n"), 60)
	checkPlace(t, "60 lines, the last one without its byte 10", strings.TrimSuffix(textOf(sixty), "\n"), 59)
	for _, at := range []int{0, 3, 30, 59} {
		wrong, wrongMore := slices.Clone(sixty), slices.Clone(more)
		wrong[at], wrongMore[at] = "x", "x"
		checkPlace(t, "60 lines, one of them wrong", textOf(wrong), at)
		checkPlace(t, "60 lines, one of them wrong, and a piece of one", textOf(wrong)+"x", at)
		checkPlace(t, "61 lines, one of them wrong", textOf(wrongMore), 60)
	}
	for _, n := range []int{59, 60, 61, 62, 100000} {
		want := 0
		if n > 60 {
			want = 60
		}
		checkPlace(t, "empty lines", strings.Repeat("\n", n), want)
	}
	if r, _ := impl.ReadOrder(textOf(sixty)); len(r.Items) != 56 {
		t.Errorf("60 lines have %d items", len(r.Items))
	}
}

// TestReadOrderWrongWords puts each wrong word at each place of each line.
func TestReadOrderWrongWords(t *testing.T) {
	wrong := []string{
		"", "-", "-1", "+1", "-0", "00", "01", "1000000", "9999999", "9223372036854775808", "18446744073709551617",
		"x", "1x", "x1", "1.0", "1,0", "0x1", "1e3", "1_0", "\t1", "1\t", "1\r", "1\x00", "\x00", "\xff", "\u0663", "\uff11",
		"First", "FIRST", "Next", "firs", "firstt", "Way", "Pallet", "mastr", "items", "carton", "#",
		" 1", "1 ", "1 2", strings.Repeat("9", 100000),
	}
	for i, line := range toldLines() {
		words := strings.Split(line, " ")
		for k := range words {
			for _, word := range wrong {
				turned, lines := slices.Clone(words), toldLines()
				turned[k] = word
				lines[i] = strings.Join(turned, " ")
				checkPlace(t, "a wrong word", textOf(lines), i)
			}
		}
	}
}

// TestReadOrderWrongLines does to each line what is wrong with a whole one.
func TestReadOrderWrongLines(t *testing.T) {
	ways := []func(line string) string{
		func(line string) string { return "" },
		func(line string) string { return " " },
		func(line string) string { return " " + line },
		func(line string) string { return line + " " },
		func(line string) string { return "\t" + line },
		func(line string) string { return line + "\r" },
		func(line string) string { return line + "\x00" },
		func(line string) string { return line + " 1" },
		func(line string) string { return line + " first" },
		func(line string) string { return line + " #" },
		func(line string) string { return "# " + line },
		func(line string) string { return line + line },
		func(line string) string { return line[:strings.LastIndex(line, " ")] },
		func(line string) string { return line[:strings.Index(line, " ")] },
		func(line string) string { return line[strings.Index(line, " ")+1:] },
		func(line string) string { return strings.Replace(line, " ", "", 1) },
		func(line string) string { return strings.Replace(line, " ", "  ", 1) },
		func(line string) string { return strings.Replace(line, " ", "\t", 1) },
		func(line string) string { return strings.Replace(line, " ", "\u00a0", 1) },
		func(line string) string { return strings.ToUpper(line) },
		func(line string) string { return strings.Repeat(line+" ", 20000) },
		func(line string) string { return "\xff\xfe\x00\x80" },
	}
	for i, line := range toldLines() {
		for k, way := range ways {
			lines := toldLines()
			lines[i] = way(line)
			if lines[i] == line {
				t.Fatalf("way %d does nothing to %q", k, line)
			}
			checkPlace(t, "a wrong line", textOf(lines), i)
		}
		last := strings.LastIndex(line, " ")
		lines := toldLines()
		lines[i] = line[:last] + " " + line[last:]
		checkPlace(t, "two blanks ahead of the last word", textOf(lines), i)
	}
}

func TestReadOrderFirstOfTwoWrong(t *testing.T) {
	for i := range toldLines() {
		for k := i + 1; k < len(toldLines()); k++ {
			lines := toldLines()
			lines[i], lines[k] = "x", "x"
			checkPlace(t, "two wrong lines", textOf(lines), i)
			checkPlace(t, "two wrong lines, and no byte 10", strings.TrimSuffix(textOf(lines), "\n"), i)
		}
	}
}

// TestReadOrderEachByte puts each byte in place of each byte, and ahead of it,
// and leaves each one out.
func TestReadOrderEachByte(t *testing.T) {
	s := "way next\npallet 10 0 3 4\nclasses 1\nwith 0 9\ntype 1 2 3 4 5 6 7\nmaster 40\nitem 1 2 3 4 5 0 1\n"
	checkRead(t, s)
	for i := range len(s) {
		checkRead(t, s[:i]+s[i+1:])
		for b := range 256 {
			by := string([]byte{byte(b)})
			checkRead(t, s[:i]+by+s[i+1:])
			checkRead(t, s[:i]+by+s[i:])
		}
	}
}

// toldNumbers are all numbers of toldOrder but its Way.
func toldNumbers(r *impl.Request) []*int {
	list := []*int{&r.Pallet.W, &r.Pallet.D, &r.Pallet.H, &r.Pallet.Gram, &r.Classes, &r.Master}
	for i := range r.Pairs {
		list = append(list, &r.Pairs[i].A, &r.Pairs[i].B)
	}
	for i := range r.Types {
		x := &r.Types[i]
		list = append(list, &x.Id, &x.W, &x.H, &x.D, &x.Tare, &x.Gram, &x.Cost)
	}
	for i := range r.Items {
		x := &r.Items[i]
		list = append(list, &x.Id, &x.W, &x.H, &x.D, &x.Gram, &x.Class, &x.Count)
	}
	return list
}

func TestOrderTextEachNumber(t *testing.T) {
	first := toldOrder()
	for i := range toldNumbers(&first) {
		for _, n := range []int{0, 1, 100001, 999998, 999999} {
			r := toldOrder()
			was := impl.Digits(*toldNumbers(&r)[i])
			*toldNumbers(&r)[i] = n
			want := strings.Replace(textOf(toldLines()), " "+was, " "+impl.Digits(n), 1)
			if got := impl.OrderText(r); got != want {
				t.Errorf("OrderText with %d is %q, want %q", n, got, want)
			}
			if back, at := impl.ReadOrder(want); at != -1 || !impl.RequestSame(back, r) {
				t.Errorf("ReadOrder(%q) = %v, %d", want, back, at)
			}
		}
		for _, n := range []int{-1, 1000000, -999999, 1 << 32, 1<<32 + 1, 1 << 62, math.MaxInt64, math.MinInt64} {
			r := toldOrder()
			*toldNumbers(&r)[i] = n
			if got := impl.OrderText(r); got != "" {
				t.Errorf("OrderText with %d is %q, want nothing", n, got)
			}
		}
	}
}

func TestOrderTextWays(t *testing.T) {
	for _, way := range []int{-1, 2, 3, 1 << 32, 1<<32 + 1, math.MaxInt64, math.MinInt64} {
		r := toldOrder()
		r.Way = way
		if got := impl.OrderText(r); got != "" {
			t.Errorf("OrderText with way %d is %q, want nothing", way, got)
		}
	}
}

// TestOrderTextLong has more lines than are read again: the document bars no
// text for its length.
func TestOrderTextLong(t *testing.T) {
	r := toldOrder()
	r.Pairs, r.Types, r.Items = nil, nil, slices.Repeat(r.Items, 28)
	if back, at := impl.ReadOrder(impl.OrderText(r)); at != -1 || !impl.RequestSame(back, r) {
		t.Errorf("60 lines are read as %v, %d", back, at)
	}
	r.Pairs = []impl.Pair{{A: 1, B: 2}}
	s := impl.OrderText(r)
	if strings.Count(s, "\n") != 61 {
		t.Errorf("OrderText has %d lines, want 61", strings.Count(s, "\n"))
	}
	checkPlace(t, "61 lines", s, 60)
}

// TestReadWritesNothing looks at the lists and at the spare room behind them.
func TestReadWritesNothing(t *testing.T) {
	r := toldOrder()
	r.Pairs = append(make([]impl.Pair, 0, 9), r.Pairs...)
	r.Types = append(make([]impl.Type, 0, 9), r.Types...)
	r.Items = append(make([]impl.Item, 0, 9), r.Items...)
	impl.OrderText(r)
	if !impl.RequestSame(r, toldOrder()) || r.Pairs[:9][2] != (impl.Pair{}) || r.Types[:9][2] != (impl.Type{}) || r.Items[:9][2] != (impl.Item{}) {
		t.Error("an argument was written into")
	}
}

func TestReadAnswersShareNothing(t *testing.T) {
	s := textOf(toldLines())
	a, _ := impl.ReadOrder(s)
	b, _ := impl.ReadOrder(s)
	for _, n := range toldNumbers(&a) {
		*n = -5
	}
	a.Pairs, a.Types, a.Items = append(a.Pairs, impl.Pair{}), append(a.Types, impl.Type{}), append(a.Items, impl.Item{})
	c, at := impl.ReadOrder(s)
	if at != -1 || !impl.RequestSame(b, toldOrder()) || !impl.RequestSame(c, toldOrder()) {
		t.Error("an answer shares memory with another one")
	}
}

// TestReadLeavesNobodyWaiting reads texts that are wrong at their first line:
// whoever sends the others is not to stay behind.
func TestReadLeavesNobodyWaiting(t *testing.T) {
	before := runtime.NumGoroutine()
	for range 2000 {
		impl.ReadOrder("x\n" + textOf(toldLines()))
		impl.ReadOrder(textOf(toldLines()) + "x")
		impl.ReadOrder(textOf(linesWith(61)))
	}
	for range 200 {
		if runtime.NumGoroutine() <= before {
			return
		}
		time.Sleep(10 * time.Millisecond)
	}
	t.Errorf("%d goroutines, %d ahead of reading", runtime.NumGoroutine(), before)
}

// TestReadAtTheSameTime has many read at once, each its own text.
func TestReadAtTheSameTime(t *testing.T) {
	faults := make(chan string, 16)
	for k := range 16 {
		go func() {
			fault := ""
			for n := range 100 {
				r := toldOrder()
				r.Master = k*100 + n
				if back, at := impl.ReadOrder(impl.OrderText(r)); at != -1 || !impl.RequestSame(back, r) {
					fault = "an order is read as another one"
				}
			}
			faults <- fault
		}()
	}
	for range 16 {
		if fault := <-faults; fault != "" {
			t.Error(fault)
		}
	}
}
