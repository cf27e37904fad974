package glyph

import (
	"math"
	"strconv"
	"strings"
	"testing"
)

// The ranges in the words of G3, so that the table is held against those.
const (
	narrowest = "300 to 36F, 483 to 489, 591 to 5BD, 610 to 61A, 64B to 65F, 1AB0 to 1AFF, 1DC0 to 1DFF, 200B to 200F, 20D0 to 20FF, FE00 to FE0F, FE20 to FE2F, E0100 to E01EF"
	widest    = "1100 to 115F, 2E80 to 303E, 3041 to 33FF, 3400 to 4DBF, 4E00 to 9FFF, A000 to A4CF, AC00 to D7A3, F900 to FAFF, FE30 to FE6F, FF00 to FF60, FFE0 to FFE6, 1F300 to 1F64F, 1F900 to 1F9FF, 20000 to 3FFFD"
)

func readRanges(t *testing.T, words string) [][2]int {
	t.Helper()
	var ranges [][2]int
	for _, one := range strings.Split(words, ", ") {
		from, to, _ := strings.Cut(one, " to ")
		a, err := strconv.ParseInt(from, 16, 0)
		b, other := strconv.ParseInt(to, 16, 0)
		if err != nil || other != nil {
			t.Fatalf("no range: %q", one)
		}
		ranges = append(ranges, [2]int{int(a), int(b)})
	}
	return ranges
}

func within(r int, ranges [][2]int) bool {
	for _, x := range ranges {
		if x[0] <= r && r <= x[1] {
			return true
		}
	}
	return false
}

func TestWidth(t *testing.T) {
	for _, c := range []struct{ r, want int }{
		{'a', 1}, {' ', 1}, {0xE9, 1}, {0x2500, 1}, {0x2026, 1}, {0xFFFD, 1},
		{0x301, 0}, {0x6C34, 2}, {0x1F600, 2},
		{9, 1}, {10, 0}, {11, 1}, {0, 1}, {127, 1}, {159, 1},
		{0x2FF, 1}, {0x300, 0}, {0x36F, 0}, {0x370, 1},
		{0x303E, 2}, {0x303F, 1}, {0x3040, 1}, {0x3041, 2},
		{0xFE2F, 0}, {0xFE30, 2}, {0xFE6F, 2}, {0xFE70, 1},
		{0x3FFFD, 2}, {0x3FFFE, 1}, {0xE00FF, 1}, {0xE0100, 0}, {0xE01EF, 0}, {0xE01F0, 1},
		{-1, 1}, {-0x300, 1}, {0xD800, 1}, {0x110000, 1},
		{1<<32 + 0x300, 1}, {math.MinInt, 1}, {math.MaxInt, 1},
	} {
		if got := Width(c.r); got != c.want {
			t.Errorf("Width(%X) = %d, want %d", c.r, got, c.want)
		}
	}
}

func TestWidthOfEveryRune(t *testing.T) {
	zero, two := readRanges(t, narrowest), readRanges(t, widest)
	for r := -100; r <= 0x110100; r++ {
		want := 1
		if r == 10 || within(r, zero) {
			want = 0
		} else if within(r, two) {
			want = 2
		}
		if got := Width(r); got != want {
			t.Fatalf("Width(%X) = %d, want %d", r, got, want)
		}
	}
}

// A search by halves goes astray in a table that is out of order.
func TestSpansRise(t *testing.T) {
	last := -1
	for _, s := range spans {
		if s.first <= last || s.last < s.first {
			t.Errorf("%X to %X stands behind %X", s.first, s.last, last)
		}
		last = s.last
	}
}
