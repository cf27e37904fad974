package flow

import (
	"math"
	"strings"
	"testing"

	"pane/glyph"
)

func TestCut(t *testing.T) {
	for _, c := range []struct {
		name, text string
		w          int
		want       string
	}{
		{"room left", "hello", 9, "hello"},
		{"just fits", "hello", 5, "hello"},
		{"one too wide", "hello", 4, "hel…"},
		{"two columns", "hello", 2, "h…"},
		{"one column", "hello", 1, "…"},
		{"one column, just fits", "h", 1, "h"},
		{"no column", "hello", 0, ""},
		{"a width below 0", "hello", -1, ""},
		{"the least width", "hello", math.MinInt, ""},
		{"the greatest width", "hello", math.MaxInt, "hello"},
		{"nothing", "", 1, ""},
		{"nothing, no column", "", 0, ""},
		{"a wide one just fits", "a水", 3, "a水"},
		{"a wide one at the cut", "a水", 2, "a…"},
		{"a wide one at the cut leaves a column", "a水b", 3, "a…"},
		{"a wide one right ahead of the cut", "a水b水", 4, "a水…"},
		{"wide ones", "水水", 3, "水…"},
		{"wide ones, an even width", "水水水", 4, "水…"},
		{"a wide one in one column", "水", 1, "…"},
		{"a newline is a blank", "a\nb", 3, "a b"},
		{"a newline is a blank at the cut", "a\nb", 2, "a…"},
		{"a newline stands ahead of the cut", "a\nbc", 3, "a …"},
		{"nothing but newlines", "\n\n", 2, "  "},
		{"newlines count", "\n\n\n", 2, " …"},
		{"a newline at the end", "ab\n", 3, "ab "},
		{"a newline at the end is too much", "ab\n", 2, "a…"},
		{"blanks stay", " a ", 3, " a "},
		{"marks stay with their base", "a\u0301b\u0302c", 2, "a\u0301…"},
		{"marks beyond the fourth are left out", "a\u0301\u0302\u0303\u0304\u0305", 1, "a\u0301\u0302\u0303\u0304"},
		{"a mark without a base", "\u0301", 1, " \u0301"},
		{"a mark behind a newline", "\n\u0301", 2, "  \u0301"},
		{"controls and broken bytes", "\t\xFF", 2, "\uFFFD\uFFFD"},
		{"controls and broken bytes, cut", "\t\xFF\x80", 2, "\uFFFD…"},
	} {
		if got := Cut(c.text, c.w); got != c.want {
			t.Errorf("%s: Cut(%q, %d) = %q, want %q", c.name, c.text, c.w, got, c.want)
		}
	}
}

// cutFromBehind drops clusters from the end until the rest fits.
func cutFromBehind(s string, w int) string {
	if w < 1 {
		return ""
	}
	// Newlines are replaced behind the clusters, since a mark goes to the
	// blank ahead of it, but not to a newline.
	l := glyph.Clusters(s)
	for i := range l {
		if l[i].Text == "\n" {
			l[i].Text, l[i].W = " ", 1
		}
	}
	if widthOf(l) <= w {
		return join(l)
	}
	for widthOf(l) > w-1 {
		l = l[:len(l)-1]
	}
	return join(l) + "…"
}

func TestCutOfManyTexts(t *testing.T) {
	for _, s := range textsOf([]string{"a", " ", "水", "\n", "\u0301"}, 6) {
		for w := range 10 {
			if got, want := Cut(s, w), cutFromBehind(s, w); got != want {
				t.Fatalf("Cut(%q, %d) = %q, want %q", s, w, got, want)
			}
		}
	}
}

func TestCutOfALongText(t *testing.T) {
	s := strings.Repeat("水\n", 200000)
	for _, c := range []struct {
		w    int
		want string
	}{
		{600000, strings.Repeat("水 ", 200000)},
		{599999, strings.Repeat("水 ", 199999) + "…"},
		{3, "水…"},
		{1, "…"},
	} {
		if got := Cut(s, c.w); got != c.want {
			t.Errorf("at %d: %d bytes, want %d", c.w, len(got), len(c.want))
		}
	}
}
