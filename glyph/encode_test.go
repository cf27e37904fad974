package glyph

import (
	"math"
	"slices"
	"testing"
)

// encodeByBits writes one rune as G1 lays out its bits.
func encodeByBits(r int) string {
	tail := func(shift int) byte { return byte(0x80 | r>>shift&0x3F) }
	switch {
	case r < 0x80:
		return string([]byte{byte(r)})
	case r < 0x800:
		return string([]byte{byte(0xC0 | r>>6), tail(0)})
	case r < 0x10000:
		return string([]byte{byte(0xE0 | r>>12), tail(6), tail(0)})
	}
	return string([]byte{byte(0xF0 | r>>18), tail(12), tail(6), tail(0)})
}

func TestEncode(t *testing.T) {
	const bad = "\xEF\xBF\xBD"
	for _, c := range []struct {
		name string
		list []int
		want string
	}{
		{"nothing", nil, ""},
		{"an empty list", []int{}, ""},
		{"one behind the other", []int{'a', 0xE9, 0x6C34, 0x1F600}, "aé水😀"},
		{"controls as they are", []int{0, 9, 10, 27, 31, 127, 128, 159}, "\x00\t\n\x1B\x1F\x7F\xC2\x80\xC2\x9F"},
		{"one byte, greatest", []int{0x7F}, "\x7F"},
		{"two bytes", []int{0x80, 0x7FF}, "\xC2\x80\xDF\xBF"},
		{"three bytes", []int{0x800, 0xFFFF}, "\xE0\xA0\x80\xEF\xBF\xBF"},
		{"four bytes", []int{0x10000, 0x10FFFF}, "\xF0\x90\x80\x80\xF4\x8F\xBF\xBF"},
		{"right beside the numbers between", []int{0xD7FF, 0xE000}, "\xED\x9F\xBF\xEE\x80\x80"},
		{"first and last one between", []int{0xD800, 0xDFFF}, bad + bad},
		{"below 0", []int{-1, -97, math.MinInt}, bad + bad + bad},
		{"above the last one", []int{0x110000, math.MaxInt}, bad + bad},
		{"a letter, but for bits above 32", []int{1<<32 + 'a', -1<<32 + 'a'}, bad + bad},
	} {
		if got := Encode(c.list); got != c.want {
			t.Errorf("%s: Encode(%X) = %q, want %q", c.name, c.list, got, c.want)
		}
	}
}

func TestEncodeWritesEveryRune(t *testing.T) {
	for r := 0; r <= 0x10FFFF; r++ {
		want := encodeByBits(r)
		if r >= 0xD800 && r <= 0xDFFF {
			want = "\xEF\xBF\xBD"
		}
		if got := Encode([]int{r}); got != want {
			t.Fatalf("Encode of %X = %q, want %q", r, got, want)
		}
	}
}

func TestEncodeLeavesItsListAsItIs(t *testing.T) {
	list := []int{'a', -1, 0xD800, 10}
	Encode(list)
	if !slices.Equal(list, []int{'a', -1, 0xD800, 10}) {
		t.Errorf("the list became %X", list)
	}
}
