package term

import (
	"strings"
	"testing"

	"pane/api"
)

// shot is what a terminal shows behind bytes.
type shot struct {
	name, bytes string
	w, h        int
	want        string
	x, y        int
}

// checkShots writes the bytes at once, one by one, and cut in two and in three at every place: the cuts must not matter.
func checkShots(t *testing.T, shots []shot) {
	for _, c := range shots {
		t.Run(c.name, func(t *testing.T) {
			m := made(t, c.w, c.h)
			m.Write(c.bytes)
			want := lookOf(m)
			if got := picture(want.cells, c.w); got != c.want || want.x != c.x || want.y != c.y {
				t.Fatalf("behind %q it shows %q, the cursor at %d, %d; want %q and %d, %d", c.bytes, got, want.x, want.y, c.want, c.x, c.y)
			}
			m = made(t, c.w, c.h)
			for i := range len(c.bytes) {
				m.Write(c.bytes[i : i+1])
			}
			if !lookOf(m).same(want) {
				t.Errorf("%q byte by byte shows %q, want %q", c.bytes, picture(m.Cells(), c.w), c.want)
			}
			checkCuts(t, c, want)
		})
	}
}

func checkCuts(t *testing.T, c shot, want look) {
	t.Helper()
	if len(c.bytes) > 60 {
		return
	}
	for i := range len(c.bytes) + 1 {
		for k := i; k <= len(c.bytes); k++ {
			m := made(t, c.w, c.h)
			m.Write(c.bytes[:i])
			m.Write(c.bytes[i:k])
			m.Write("")
			m.Write(c.bytes[k:])
			if !lookOf(m).same(want) {
				t.Fatalf("%q cut at %d and %d shows %q, want %q", c.bytes, i, k, picture(m.Cells(), c.w), c.want)
			}
		}
	}
}

func TestPrinted(t *testing.T) {
	checkShots(t, []shot{
		{"nothing", "", 3, 2, "...|...|", 0, 0},
		{"letters", "ab", 3, 2, "ab.|...|", 2, 0},
		{"a full row", "abc", 3, 2, "abc|...|", 3, 0},
		{"more than a row", "abcd", 3, 2, "abc|...|", 3, 0},
		{"much more than a row", strings.Repeat("x", 5000), 3, 2, "xxx|...|", 3, 0},
		{"runes of one to four bytes", "aé水😀", 6, 1, "aé水>😀>|", 6, 0},
		{"the least byte that is printed", " \x21", 3, 1, ".!.|", 2, 0},
		{"the greatest byte that is printed", "~\x7F", 3, 1, "~..|", 1, 0},
		{"the least and the greatest of two bytes", "\u00A0\u07FF", 3, 1, "\u00A0\u07FF.|", 2, 0},
		{"the least and the greatest of three bytes", "\u0800\uFFFF", 3, 1, "\u0800\uFFFF.|", 2, 0},
		{"beside the runes that are none", "\uD7FF\uE000", 3, 1, "\uD7FF\uE000.|", 2, 0},
		{"the least and the greatest of four bytes", "\U00010000\U0010FFFF", 3, 1, "\U00010000\U0010FFFF.|", 2, 0},
		{"U+FFFD itself", "\uFFFD", 3, 1, "\uFFFD..|", 1, 0},
	})
}

func TestControls(t *testing.T) {
	checkShots(t, []shot{
		{"a newline", "a\nb", 3, 2, "ab.|...|", 2, 0},
		{"a tab", "a\tb", 3, 2, "ab.|...|", 2, 0},
		{"a return", "ab\rc", 3, 2, "abc|...|", 3, 0},
		{"a step back", "ab\bc", 3, 2, "abc|...|", 3, 0},
		{"nothing but controls", "\x00\x01\x1A\x1C\x1F\x7F", 3, 2, "...|...|", 0, 0},
		{"128 and 159", "\u0080\u009F", 3, 1, "\uFFFD\uFFFD.|", 2, 0},
		{"128 with a mark", "\u0080\u0301", 3, 1, "\uFFFD\u0301..|", 1, 0},
		{"160", "\u00A0", 3, 1, "\u00A0..|", 1, 0},
		{"a sequence's beginning of one rune", "\u009B2J", 4, 1, "\uFFFD2J.|", 3, 0},
	})
	for r := range 160 {
		if r != 27 {
			checkLowRune(t, r)
		}
	}
}

func checkLowRune(t *testing.T, r int) {
	t.Helper()
	m := made(t, 2, 1)
	m.Write(string(rune(r)) + "z")
	want := []string{string(rune(r)), "z"}
	switch {
	case r < 32 || r == 127:
		want = []string{"z", " "}
	case r > 127:
		want[0] = bad
	}
	for i, cell := range m.Cells() {
		if cell != (api.Cell{Text: want[i]}) {
			t.Errorf("behind rune %d and z cell %d is %+v, want %q", r, i, cell, want[i])
		}
	}
}

const bad = "\uFFFD"

func TestRunesThatEndTooSoon(t *testing.T) {
	checkShots(t, []shot{
		{"half come of two", "\xC3", 4, 1, "....|", 0, 0},
		{"half come of three", "\xE6\xB0", 4, 1, "....|", 0, 0},
		{"half come of four", "\xF0\x9F\x98", 4, 1, "....|", 0, 0},

		{"two, and a letter", "\xC3a", 4, 1, bad + "a..|", 2, 0},
		{"three, and a letter", "\xE6a", 4, 1, bad + "a..|", 2, 0},
		{"three, later", "\xE6\xB0a", 4, 1, bad + bad + "a.|", 3, 0},
		{"four, and a letter", "\xF0a", 4, 1, bad + "a..|", 2, 0},
		{"four, later", "\xF0\x9Fa", 4, 1, bad + bad + "a.|", 3, 0},
		{"four, still later", "\xF0\x9F\x98a", 4, 1, bad + bad + bad + "a|", 4, 0},

		{"two, and another begins", "\xC3\xC3\xA9", 4, 1, bad + "é..|", 2, 0},
		{"three, and one of two begins", "\xE6\xB0\xC3\xA9", 4, 1, bad + bad + "é.|", 3, 0},
		{"four, and one of three begins", "\xF0\x9F\xE6\xB0\xB4", 4, 1, bad + bad + "水>|", 4, 0},
		{"four, and one of four begins", "\xF0\xF0\x9F\x98\x80", 4, 1, bad + "😀>.|", 3, 0},
		{"another begins and is half come", "\xE6\xB0\xE6\xB0", 4, 1, bad + bad + "..|", 2, 0},
		{"each begins another", "\xC3\xE6\xF0\xC3", 4, 1, bad + bad + bad + ".|", 3, 0},

		{"two, and ESC", "\xC3\x1b[2;1Hx", 4, 2, bad + "...|x...|", 1, 1},
		{"three, and ESC", "\xE6\xB0\x1b[2;1Hx", 4, 2, bad + bad + "..|x...|", 1, 1},
		{"four, and ESC", "\xF0\x9F\x98\x1b[2;1Hx", 4, 2, bad + bad + bad + ".|x...|", 1, 1},
		{"three, and ESC that is half come", "\xE6\xB0\x1b", 4, 1, bad + bad + "..|", 2, 0},

		{"two, and a control", "\xC3\nx", 4, 1, bad + "x..|", 2, 0},
		{"three, and a control", "\xE6\xB0\x00x", 4, 1, bad + bad + "x.|", 3, 0},
		{"four, and 127", "\xF0\x9F\x98\x7Fx", 4, 1, bad + bad + bad + "x|", 4, 0},
		{"a control parts a rune", "\xE6\xB0\x01\xB4", 4, 1, bad + bad + bad + ".|", 3, 0},

		{"two, and FF", "\xC3\xFFx", 4, 1, bad + bad + "x.|", 3, 0},
		{"three, and C0", "\xE6\xB0\xC0", 4, 1, bad + bad + bad + ".|", 3, 0},
		{"four, and F5", "\xF0\x9F\xF5\x9F", 4, 1, bad + bad + bad + bad + "|", 4, 0},
		{"more alone", "\x80\xBFx", 4, 1, bad + bad + "x.|", 3, 0},
		{"bytes at which none can begin", "\xC0\xC1\xF5\xFF", 4, 1, bad + bad + bad + bad + "|", 4, 0},
		{"too small behind E0", "\xE0\x9F\x80", 4, 1, bad + bad + bad + ".|", 3, 0},
		{"too great behind ED", "\xED\xA0\x80", 4, 1, bad + bad + bad + ".|", 3, 0},
		{"too small behind F0", "\xF0\x8F", 4, 1, bad + bad + "..|", 2, 0},
		{"too great behind F4", "\xF4\x90", 4, 1, bad + bad + "..|", 2, 0},
		{"one more too many", "\xC3\xA9\xA9", 4, 1, "é" + bad + "..|", 2, 0},

		{"a mark that is half come waits", "a\xCC", 4, 1, "a...|", 1, 0},
		{"a mark behind one that ended too soon", "\xC3\u0301", 4, 1, bad + "\u0301...|", 1, 0},
		{"a rune that ended too soon has no room", "abcd\xE6\xB0a", 4, 1, "abcd|", 4, 0},
	})
}

func TestMarks(t *testing.T) {
	checkShots(t, []shot{
		{"without a last cell", "\u0301a", 3, 1, "a..|", 1, 0},
		{"behind a letter", "a\u0301b", 3, 1, "a\u0301b.|", 2, 0},
		{"behind a blank", " \u0301b", 3, 1, " \u0301b.|", 2, 0},
		{"behind a wide one", "水\u0301b", 3, 1, "水\u0301>b|", 3, 0},
		{"behind U+FFFD", "\xFF\u0301", 3, 1, bad + "\u0301..|", 1, 0},
		{"of three bytes", "a\u200B\u20D0", 3, 1, "a\u200B\u20D0..|", 1, 0},
		{"of four bytes", "a\U000E0100", 3, 1, "a\U000E0100..|", 1, 0},
		{"MaxMarks of them", "a\u0301\u0302\u0303\u0304b", 3, 1, "a\u0301\u0302\u0303\u0304b.|", 2, 0},
		{"one more", "a\u0301\u0302\u0303\u0304\u0305b", 3, 1, "a\u0301\u0302\u0303\u0304b.|", 2, 0},
		{"many more", "a" + strings.Repeat("\u0301", 10000), 3, 1, "a\u0301\u0301\u0301\u0301..|", 1, 0},
		{"counted anew behind the next one", "a\u0301\u0302\u0303\u0304\u0305b\u0306", 3, 1, "a\u0301\u0302\u0303\u0304b\u0306.|", 2, 0},
		{"MaxMarks of them behind a wide one", "水\u0301\u0302\u0303\u0304\u0305", 3, 1, "水\u0301\u0302\u0303\u0304>.|", 2, 0},
		{"behind a newline", "a\n\u0301", 3, 1, "a..|", 1, 0},
		{"behind byte 0", "a\x00\u0301", 3, 1, "a..|", 1, 0},
		{"behind 127", "a\x7F\u0301", 3, 1, "a..|", 1, 0},
		{"behind a control, and behind the next one", "a\x01\u0301b\u0302", 3, 1, "ab\u0302.|", 2, 0},
		{"behind a sequence that changes nothing", "a\x1b[m\u0301", 3, 1, "a..|", 1, 0},
		{"behind a sequence that is none", "a\x1bM\u0301", 3, 1, "a..|", 1, 0},
		{"behind a sequence that is broken", "a\x1b[1\x01\u0301", 3, 1, "a..|", 1, 0},
		{"behind H to the same place", "a\x1b[1;2H\u0301", 3, 1, "a..|", 1, 0},
		{"behind J", "a\x1b[2J\u0301", 3, 1, "...|", 1, 0},
		{"behind a rune that did not fit", "abcd\u0301", 3, 1, "abc|", 3, 0},
		{"behind a wide rune that did not fit", "ab水\u0301c\u0302", 3, 1, "abc\u0302|", 3, 0},
		{"behind the last one that fits", "abc\u0301", 3, 1, "abc\u0301|", 3, 0},
		{"behind a wide one that just fits", "a水\u0301", 3, 1, "a水\u0301>|", 3, 0},
		{"a mark over a cell that had some", "a\u0301\x1b[Hb", 3, 1, "b..|", 1, 0},
		{"marks of a cell put anew are counted anew", "a\u0301\u0302\u0303\u0304\x1b[Ha\u0305", 3, 1, "a\u0305..|", 1, 0},
	})
}

func TestRoomAtTheEnd(t *testing.T) {
	checkShots(t, []shot{
		{"a letter at the last column", "\x1b[1;4Ha", 4, 2, "...a|....|", 4, 0},
		{"a letter one before it", "\x1b[1;3Ha", 4, 2, "..a.|....|", 3, 0},
		{"a letter behind it", "abcde", 4, 2, "abcd|....|", 4, 0},
		{"a wide one at the last column", "\x1b[1;4H水", 4, 2, "....|....|", 3, 0},
		{"a letter behind a wide one that had no room", "\x1b[1;4H水a", 4, 2, "...a|....|", 4, 0},
		{"a wide one one before it", "\x1b[1;3H水", 4, 2, "..水>|....|", 4, 0},
		{"a wide one behind it", "abcd水", 4, 2, "abcd|....|", 4, 0},
		{"the last row", "\x1b[2;4Hab", 4, 2, "....|...a|", 4, 1},
		{"a wide one in the last row's end", "\x1b[2;4H水", 4, 2, "....|....|", 3, 1},
		{"one column and a letter", "ab", 1, 1, "a|", 1, 0},
		{"one column and a wide one", "水a", 1, 1, "a|", 1, 0},
		{"two columns and a wide one", "水a", 2, 1, "水>|", 2, 0},
		{"one that has no room changes no cell", "abc\x1b[1;3H水", 3, 1, "abc|", 2, 0},
		{"one that has no room leaves a tail", "a水\x1b[1;3H火", 3, 1, "a水>|", 2, 0},
	})
}

func TestOverWideCells(t *testing.T) {
	checkShots(t, []shot{
		{"a letter over a head", "水b\x1b[1;1Hx", 4, 1, "x.b.|", 1, 0},
		{"a letter over a tail", "水b\x1b[1;2Hx", 4, 1, ".xb.|", 2, 0},
		{"a wide one over a wide one", "水b\x1b[1;1H火", 4, 1, "火>b.|", 2, 0},
		{"a wide one over a tail", "水b\x1b[1;2H火", 4, 1, ".火>.|", 3, 0},
		{"a wide one over a head", "a水b\x1b[1;1H火", 4, 1, "火>.b|", 2, 0},
		{"a wide one over a tail and a head", "水火\x1b[1;2H木", 4, 1, ".木>.|", 3, 0},
		{"a mark does not free a half", "水\u0301火", 4, 1, "水\u0301>火>|", 4, 0},
		{"letters over all of it", "水火\x1b[Habcd", 4, 1, "abcd|", 4, 0},
	})
	m := made(t, 4, 1)
	m.Write("\x1b[31m水火\x1b[1;2H\x1b[32m木")
	if got := colours(m.Cells(), 4); got != "2332|" {
		t.Errorf("the colours are %s: a half that becomes a blank keeps its style", got)
	}
}

func TestPrintedInTheStyle(t *testing.T) {
	m := made(t, 5, 1)
	m.Write("a\x1b[31mb\u0301水\x1b[1;44mc")
	red, loud := api.Style{Fg: 2}, api.Style{Fg: 2, Bg: 5, Bold: 1}
	want := []api.Cell{{Text: "a"}, {Text: "b\u0301", Style: red}, {Text: "水", Style: red, Part: 1}, {Style: red, Part: 2}, {Text: "c", Style: loud}}
	for i, got := range m.Cells() {
		if got != want[i] {
			t.Errorf("cell %d is %+v, want %+v", i, got, want[i])
		}
	}
	if m.Style() != loud {
		t.Errorf("the style is %+v, want %+v", m.Style(), loud)
	}
}

// TestManyBytes: what is given may be long; nothing of it is read twice.
func TestManyBytes(t *testing.T) {
	for _, s := range []string{"a", "水", "\u0301", "\xF0\x9F", "\xFF", "\x1b", "\x1b[", "\x1b[H水火", "\x00"} {
		m := made(t, 9, 2)
		m.Write(strings.Repeat(s, 200000))
		if x, y := m.Cursor(); x < 0 || x > 9 || y != 0 {
			t.Errorf("behind %q many times the cursor stands at %d, %d", s, x, y)
		}
	}
}
