package flow

import (
	"math"
	"strings"
	"testing"

	"pane/glyph"
)

func TestAlign(t *testing.T) {
	for _, c := range []struct {
		name, line string
		w, how     int
		want       string
	}{
		{"left, an odd number", "ab", 5, 0, "ab   "},
		{"middle, an odd number", "ab", 5, 1, " ab  "},
		{"right, an odd number", "ab", 5, 2, "   ab"},
		{"left, an even number", "ab", 6, 0, "ab    "},
		{"middle, an even number", "ab", 6, 1, "  ab  "},
		{"right, an even number", "ab", 6, 2, "    ab"},
		{"middle, one blank", "ab", 3, 1, "ab "},
		{"right, one blank", "ab", 3, 2, " ab"},
		{"middle, two blanks", "ab", 4, 1, " ab "},
		{"another how", "ab", 5, 3, "ab   "},
		{"a how below 0", "ab", 5, -1, "ab   "},
		{"the greatest how", "ab", 5, math.MaxInt, "ab   "},
		{"the least how", "ab", 5, math.MinInt, "ab   "},
		{"a how that would wrap to 1", "ab", 5, 1<<32 + 1, "ab   "},
		{"a how that would wrap to 2", "ab", 5, 1<<32 + 2, "ab   "},
		{"just so", "abc", 3, 1, "abc"},
		{"too wide", "abc", 2, 2, "abc"},
		{"too wide, by a wide one", "a水", 2, 1, "a水"},
		{"no width", "ab", 0, 2, "ab"},
		{"a width below 0", "ab", -1, 1, "ab"},
		{"the least width", "ab", math.MinInt, 2, "ab"},
		{"no line", "", 3, 1, "   "},
		{"no line, no width", "", 0, 1, ""},
		{"no line, the least width", "", math.MinInt, 1, ""},
		{"wide ones", "水", 5, 1, " 水  "},
		{"marks", "a\u0301", 3, 2, "  a\u0301"},
		{"a mark without a base counts with its blank", "\u0301", 3, 0, "\u0301  "},
		{"a line of blanks", "  ", 4, 2, "    "},
		{"a newline has no width and stays", "a\nb", 4, 2, "  a\nb"},
		{"the line as it stands: marks", "a\u0301\u0302\u0303\u0304\u0305", 2, 0, "a\u0301\u0302\u0303\u0304\u0305 "},
		{"the line as it stands: broken bytes", "\xFF\t", 4, 1, " \xFF\t "},
		{"the line as it stands: broken bytes, too wide", "\xFF\t", 1, 1, "\xFF\t"},
	} {
		if got := Align(c.line, c.w, c.how); got != c.want {
			t.Errorf("%s: Align(%q, %d, %d) = %q, want %q", c.name, c.line, c.w, c.how, got, c.want)
		}
	}
}

func TestAlignAtMaxLength(t *testing.T) {
	const most = 100000
	for _, w := range []int{most - 1, most, most + 1, 1 << 32, 1<<32 + 3, math.MaxInt} {
		missing := min(w, most) - 3
		for _, c := range []struct{ how, ahead int }{{0, 0}, {1, missing / 2}, {2, missing}, {3, 0}} {
			want := strings.Repeat(" ", c.ahead) + "a水" + strings.Repeat(" ", missing-c.ahead)
			if got := Align("a水", w, c.how); got != want {
				t.Errorf("Align(a水, %d, %d) is %d bytes long with %d ahead, want %d with %d", w, c.how,
					len(got), strings.Index(got, "a"), len(want), c.ahead)
			}
		}
	}
	for _, n := range []int{most, most + 1, 3 * most} {
		line := strings.Repeat("a", n)
		if got := Align(line, math.MaxInt, 2); got != line {
			t.Errorf("a line of %d columns has become one of %d", n, glyph.Columns(got))
		}
	}
}
