package differ

import (
	"math"
	"slices"
	"strings"
	"testing"

	"pane/api"
)

// updated is Update of screens that are sound, of one size.
func updated(t testing.TB, old, new []api.Cell, w int) string {
	t.Helper()
	keptOld, keptNew := slices.Clone(old), slices.Clone(new)
	bytes, errno := Update(old, w, new, w)
	if errno != api.OK {
		t.Fatalf("Update(%+v, %+v, %d) = %q, %d", old, new, w, bytes, errno)
	}
	if !slices.Equal(old, keptOld) || !slices.Equal(new, keptNew) {
		t.Fatalf("Update changed the screens %+v, %+v to %+v, %+v", keptOld, keptNew, old, new)
	}
	return bytes
}

// Which bytes they are is free, as long as the promises hold (document_test.go looks at these): the wanted ones here are those that are written now.
func TestUpdates(t *testing.T) {
	for _, c := range []struct {
		name     string
		old, new []api.Cell
		w        int
		written  []int
		want     string
	}{
		{"the same", screen("ab水", "cdef"), screen("ab水", "cdef"), 4, nil, ""},
		{"the same, in colours", dyed(screen("ab水"), loud, 0, 2, 3), dyed(screen("ab水"), loud, 0, 2, 3), 4, nil, ""},
		{"one cell", screen("abc"), screen("aXc"), 3, []int{1}, "\x1b[1;2HX"},
		{"the first cell", screen("abc", "def"), screen("Xbc", "def"), 3, []int{0}, "\x1b[1;1HX"},
		{"the last cell", screen("abc", "def"), screen("abc", "deX"), 3, []int{5}, "\x1b[2;3HX"},
		{"a cell of another row", screen("abc", "def"), screen("abc", "Xef"), 3, []int{3}, "\x1b[2;1HX"},
		{"neighbours", screen("abc"), screen("XYc"), 3, []int{0, 1}, "\x1b[1;1HXY"},
		{"two apart", screen("abc"), screen("XbY"), 3, []int{0, 2}, "\x1b[1;1HX\x1b[1;3HY"},
		{"over a row's end", screen("ab", "cd"), screen("aX", "Yd"), 2, []int{1, 2}, "\x1b[1;2HX\x1b[2;1HY"},
		{"a column", screen("a", "b", "c"), screen("X", "b", "Y"), 1, []int{0, 2}, "\x1b[1;1HX\x1b[3;1HY"},
		{"all of a column", screen("a", "b"), screen("X", "Y"), 1, []int{0, 1}, "\x1b[1;1HX\x1b[2;1HY"},
		{"a letter goes", screen("abc"), screen("a c"), 3, []int{1}, "\x1b[1;2H "},

		{"a mark comes", screen("aec"), screen("ae\u0301c"), 3, []int{1}, "\x1b[1;2He\u0301"},
		{"a mark goes", screen("ae\u0301c"), screen("aec"), 3, []int{1}, "\x1b[1;2He"},
		{"another mark", screen("ae\u0301c"), screen("ae\u0302c"), 3, []int{1}, "\x1b[1;2He\u0302"},
		{"a mark behind a wide one", screen("a水"), screen("a水\u0301"), 3, []int{1, 2}, "\x1b[1;2H水\u0301"},
		{"marks and what stands behind them", screen("abc"), screen("e\u0301\u0302\u0303\u0304Xc"), 3, []int{0, 1}, "\x1b[1;1He\u0301\u0302\u0303\u0304X"},
		{"a blank with a mark behind a letter", screen("abc"), screen("X \u0301c"), 3, []int{0, 1}, "\x1b[1;1HX \u0301"},

		{"a Style alone", screen("abc"), dyed(screen("abc"), red, 1), 3, []int{1}, "\x1b[1;2H\x1b[31mb\x1b[0m"},
		{"a Style goes", dyed(screen("abc"), red, 1), screen("abc"), 3, []int{1}, "\x1b[1;2Hb"},
		{"a Style of a blank", screen("   "), dyed(screen("   "), loud, 1), 3, []int{1}, "\x1b[1;2H\x1b[1;37;47m \x1b[0m"},
		{"a Style of neighbours", screen("abc"), dyed(screen("abc"), red, 0, 1), 3, []int{0, 1}, "\x1b[1;1H\x1b[31mab\x1b[0m"},
		{"a Style at two places", screen("abc"), dyed(screen("abc"), red, 0, 2), 3, []int{0, 2}, "\x1b[1;1H\x1b[31ma\x1b[1;3Hc\x1b[0m"},
		{"a Style that ends", screen("abc"), dyed(screen("aXY"), red, 1), 3, []int{1, 2}, "\x1b[1;2H\x1b[31mX\x1b[0mY"},
		{"a Style of a wide one", screen("水c"), dyed(screen("水c"), red, 0, 1), 3, []int{0, 1}, "\x1b[1;1H\x1b[31m水\x1b[0m"},
		{"Styles that end bold", screen("abc"), dyed(dyed(screen("abc"), loud, 0), red, 1), 3, []int{0, 1}, "\x1b[1;1H\x1b[1;37;47ma\x1b[0;31mb\x1b[0m"},

		{"a wide one over narrow ones", screen("abc"), screen("水c"), 3, []int{0, 1}, "\x1b[1;1H水"},
		{"narrow ones over a wide one", screen("水c"), screen("abc"), 3, []int{0, 1}, "\x1b[1;1Hab"},
		{"a blank over a wide one", screen("水c"), screen("  c"), 3, []int{0, 1}, "\x1b[1;1H  "},
		{"a wide one over a wide one", screen("水c"), screen("火c"), 3, []int{0, 1}, "\x1b[1;1H火"},
		{"over a tail and a letter", screen("水bc"), screen("a火c"), 4, []int{0, 1, 2}, "\x1b[1;1Ha火"},
		{"over a letter and a head", screen("a水c"), screen("火bc"), 4, []int{0, 1, 2}, "\x1b[1;1H火b"},
		{"over a tail and a head", screen("水水"), screen("a火b"), 4, []int{0, 1, 2, 3}, "\x1b[1;1Ha火b"},
		{"two over one between", screen("a火b"), screen("水水"), 4, []int{0, 1, 2, 3}, "\x1b[1;1H水水"},
		{"all moved by one", screen("水火木a"), screen("a水火木"), 7, []int{0, 1, 2, 3, 4, 5, 6}, "\x1b[1;1Ha水火木"},
		{"all moved back by one", screen("a水火木"), screen("水火木a"), 7, []int{0, 1, 2, 3, 4, 5, 6}, "\x1b[1;1H水火木a"},
		{"a wide one at a row's end", screen("abc", "def"), screen("a水", "def"), 3, []int{1, 2}, "\x1b[1;2H水"},
		{"a wide one at a row's end, and the next one's beginning", screen("abc", "def"), screen("a水", "火f"), 3, []int{1, 2, 3, 4}, "\x1b[1;2H水\x1b[2;1H火"},
		{"a wide one goes from a row's end", screen("a水", "def"), screen("abc", "def"), 3, []int{1, 2}, "\x1b[1;2Hbc"},
		{"a wide one at the screen's end", screen("abc", "def"), screen("abc", "d水"), 3, []int{4, 5}, "\x1b[2;2H水"},
	} {
		t.Run(c.name, func(t *testing.T) {
			if got := updated(t, c.old, c.new, c.w); got != c.want {
				t.Errorf("the bytes are %q, want %q", got, c.want)
			}
			var written []int
			for i, is := range checkUpdate(t, c.old, c.w, c.new, c.w) {
				if is {
					written = append(written, i)
				}
			}
			if !slices.Equal(written, c.written) {
				t.Errorf("the cells %v are written, want %v", written, c.written)
			}
		})
	}
}

func TestUpdatesFromNothing(t *testing.T) {
	abc := screen("a水", "  c")
	want := "\x1b[2J\x1b[1;1Ha水\x1b[2;3Hc"
	for _, c := range []struct {
		name string
		old  []api.Cell
		w    int
	}{
		{"no cells", nil, 0},
		{"no cells, of the same width", nil, 3},
		{"of another width", blanks(6), 2},
		{"the same cells, of another width", abc, 6},
		{"the same cells, of no width", abc, 0},
		{"the same cells, of a width below 0", abc, -3},
		{"the same cells, of widths beyond all bounds", abc, math.MaxInt},
		{"the same cells, of widths below all bounds", abc, math.MinInt},
		{"of a height less", blanks(3), 3},
		{"of a height more", blanks(9), 3},
		{"one cell less", abc[:5], 3},
		{"one cell more", append(slices.Clone(abc), api.Cell{Text: " "}), 3},
		{"a Text of two clusters", with(abc, 0, api.Cell{Text: "ab"}), 3},
		{"a Text that is none", with(abc, 5, api.Cell{}), 3},
		{"a tail with a Text", with(abc, 2, api.Cell{Text: " ", Part: 2}), 3},
		{"a tail alone", with(abc, 1, api.Cell{Text: " "}), 3},
		{"a head alone", with(abc, 2, api.Cell{Text: " "}), 3},
		{"a Style above its bounds", dyed(abc, api.Style{Fg: 9}, 3), 3},
		{"halves of two Styles", dyed(abc, red, 1), 3},
		{"a Part that is none", with(abc, 3, api.Cell{Text: " ", Part: 3}), 3},
		{"more than MaxSide rows", blanks(401 * 3), 3},
	} {
		t.Run(c.name, func(t *testing.T) {
			kept := slices.Clone(c.old)
			bytes, errno := Update(c.old, c.w, abc, 3)
			if bytes != want || errno != api.OK {
				t.Errorf("Update = %q, %d, want %q", bytes, errno, want)
			}
			if !slices.Equal(c.old, kept) {
				t.Errorf("Update changed the screen %+v to %+v", kept, c.old)
			}
			checkUpdate(t, c.old, c.w, abc, 3)
		})
	}
}

func TestUpdatesFromNothingToOther(t *testing.T) {
	for _, c := range []struct {
		name string
		new  []api.Cell
		v    int
		want string
	}{
		{"blanks", blanks(6), 3, "\x1b[2J"},
		{"one blank", blanks(1), 1, "\x1b[2J"},
		{"a blank in a colour", dyed(blanks(6), red, 4), 3, "\x1b[2J\x1b[2;2H\x1b[31m \x1b[0m"},
		{"a blank with a mark", screen(" \u0301"), 1, "\x1b[2J\x1b[1;1H \u0301"},
		{"one cell", text("a"), 1, "\x1b[2J\x1b[1;1Ha"},
		{"the greatest screen", with(blanks(160000), 159999, api.Cell{Text: "a", Style: loud}), 400, "\x1b[2J\x1b[400;400H\x1b[1;37;47ma\x1b[0m"},
	} {
		t.Run(c.name, func(t *testing.T) {
			if bytes, errno := Update(nil, 0, c.new, c.v); bytes != c.want || errno != api.OK {
				t.Errorf("Update = %q, %d, want %q", bytes, errno, c.want)
			}
			checkUpdate(t, nil, 0, c.new, c.v)
		})
	}
}

// TestUpdateRefuses: if new is not sound, old and w do not matter.
func TestUpdateRefuses(t *testing.T) {
	sound := screen("ab", "cd")
	for _, c := range []struct {
		name string
		new  []api.Cell
		v    int
	}{
		{"no cells", nil, 2},
		{"no columns", sound, 0},
		{"columns below 0", sound, -2},
		{"columns beyond all bounds", sound, math.MaxInt},
		{"columns below all bounds", sound, math.MinInt},
		{"a cell too few", sound[:3], 2},
		{"a newline", with(sound, 3, api.Cell{Text: "\n"}), 2},
		{"ESC", with(sound, 3, api.Cell{Text: "\x1b"}), 2},
		{"a sequence", with(sound, 3, api.Cell{Text: "\x1b[2J"}), 2},
		{"a Style above its bounds", dyed(sound, api.Style{Bg: 9}, 0), 2},
		{"a tail alone", with(sound, 1, api.Cell{Part: 2}), 2},
		{"rows of more than MaxSide", blanks(802), 401},
	} {
		t.Run(c.name, func(t *testing.T) {
			for _, old := range [][]api.Cell{nil, sound, c.new, blanks(802)} {
				for _, w := range []int{2, c.v, 0, 401, math.MinInt, math.MaxInt} {
					if bytes, errno := Update(old, w, c.new, c.v); bytes != "" || errno != api.ErrRange {
						t.Errorf("Update(%d cells, %d) = %q, %d, want ErrRange", len(old), w, bytes, errno)
					}
				}
			}
		})
	}
}

// TestTheGreatestScreens: all of 400 rows of 400 columns differ, and each cell is as costly as can be.
func TestTheGreatestScreens(t *testing.T) {
	marks := "\U000E0100\U000E0101\U000E0102\U000E0103"
	narrow := slices.Repeat(dyed(text("\U00010000"+marks), loud, 0), 160000)
	for i := range narrow {
		if i%2 == 1 {
			narrow[i].Style = api.Style{Fg: 7, Bg: 7}
		}
	}
	wideOnes := screen(slices.Repeat([]string{strings.Repeat("\U00020000"+marks, 200)}, 400)...)
	for _, c := range [][2][]api.Cell{{blanks(160000), narrow}, {narrow, wideOnes}, {wideOnes, narrow}, {wideOnes, blanks(160000)}, {nil, narrow}, {nil, wideOnes}} {
		checkUpdate(t, c[0], 400, c[1], 400)
	}
}

func TestUpdatesDoNotHangOnOthers(t *testing.T) {
	first := updated(t, screen("abc"), screen("aXc"), 3)
	updated(t, screen("水c"), dyed(screen("abc"), loud, 0), 3)
	if again := updated(t, screen("abc"), screen("aXc"), 3); again != first {
		t.Errorf("the bytes are %q at first, then %q", first, again)
	}
}
