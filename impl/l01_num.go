package impl

import (
	"cmp"
	"slices"
	"strconv"
	"strings"
)

const maxNumber = 999999
const maxTerm = 1000000000
const noNumber = "no number"

func Digits(n int) string { return strconv.Itoa(n) }

func Number(s string) (n int, ok bool) {
	defer func() {
		if recover() != nil {
			n, ok = 0, false
		}
	}()
	return mustNumber(s), true
}

// mustNumber holds s against Digits once more, because Atoi also takes a sign
// and zeros ahead.
func mustNumber(s string) int {
	n, err := strconv.Atoi(s)
	if err != nil || n < 0 || n > maxNumber || Digits(n) != s {
		panic(noNumber)
	}
	return n
}

// Parts clones each piece, because a piece of a string shares the memory of the
// whole one, and an answer shares none with an argument.
func Parts(s string, by byte) []string {
	parts := []string{}
	from := 0
	for i := range len(s) {
		if s[i] == by {
			parts = append(parts, strings.Clone(s[from:i]))
			from = i + 1
		}
	}
	return append(parts, strings.Clone(s[from:]))
}

// SortUp compares rather than subtracts, because a difference of two keys may
// go round; the sort is a stable one, so equal keys keep their places' order.
func SortUp(keys []int) []int {
	places := placesOf(keys)
	slices.SortStableFunc(places, func(a, b int) int { return cmp.Compare(keys[a], keys[b]) })
	return places
}

// SortDown isn't SortUp turned round: that would put the greater place ahead
// among equal keys.
func SortDown(keys []int) []int {
	places := placesOf(keys)
	slices.SortStableFunc(places, func(a, b int) int { return cmp.Compare(keys[b], keys[a]) })
	return places
}

func placesOf(keys []int) []int {
	places := make([]int, len(keys))
	for i := range places {
		places[i] = i
	}
	return places
}

func Sum(list []int) int {
	total := 0
	for _, term := range list {
		if term >= -maxTerm && term <= maxTerm {
			total += term
		}
	}
	return total
}
