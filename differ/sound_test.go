package differ

import (
	"math"
	"slices"
	"strings"
	"testing"

	"pane/api"
	"pane/glyph"
)

var (
	plain = api.Style{}
	red   = api.Style{Fg: 2}
	loud  = api.Style{Fg: 8, Bg: 8, Bold: 1}
)

// screen has a row for each text, whose clusters stand one behind the other.
func screen(rows ...string) []api.Cell {
	var cells []api.Cell
	for _, row := range rows {
		for _, g := range glyph.Clusters(row) {
			cells = append(cells, api.Cell{Text: g.Text, Part: g.W - 1})
			if g.W == 2 {
				cells = append(cells, api.Cell{Part: 2})
			}
		}
	}
	return cells
}

// dyed is a copy in which the cells of these numbers have a style.
func dyed(cells []api.Cell, st api.Style, which ...int) []api.Cell {
	cells = slices.Clone(cells)
	for _, i := range which {
		cells[i].Style = st
	}
	return cells
}

// with is a copy in which a cell is another one.
func with(cells []api.Cell, i int, cell api.Cell) []api.Cell {
	cells = slices.Clone(cells)
	cells[i] = cell
	return cells
}

func text(s string) []api.Cell { return []api.Cell{{Text: s}} }

func wide(s string) []api.Cell { return []api.Cell{{Text: s, Part: 1}, {Part: 2}} }

type soundCase struct {
	name  string
	cells []api.Cell
	w     int
	want  bool
}

func checkSound(t *testing.T, cases []soundCase) {
	for _, c := range cases {
		t.Run(c.name, func(t *testing.T) {
			kept := slices.Clone(c.cells)
			if got := Sound(c.cells, c.w); got != c.want {
				t.Errorf("Sound(%+v, %d) = %v", c.cells, c.w, got)
			}
			bytes, errno := Update(nil, 0, c.cells, c.w)
			if c.want && errno != api.OK || !c.want && (errno != api.ErrRange || bytes != "") {
				t.Errorf("Update to %+v, %d = %q, %d", c.cells, c.w, bytes, errno)
			}
			if !slices.Equal(c.cells, kept) {
				t.Errorf("the cells %+v became %+v", kept, c.cells)
			}
		})
	}
}

func blanks(n int) []api.Cell { return slices.Repeat([]api.Cell{{Text: " "}}, n) }

func TestSoundSizes(t *testing.T) {
	checkSound(t, []soundCase{
		{"one cell", blanks(1), 1, true},
		{"one row", blanks(5), 5, true},
		{"rows", blanks(15), 5, true},
		{"rows of one", blanks(5), 1, true},
		{"no cells", nil, 5, false},
		{"an empty list", []api.Cell{}, 1, false},
		{"no cells and no columns", nil, 0, false},
		{"no columns", blanks(5), 0, false},
		{"columns below 0", blanks(5), -5, false},
		{"columns below all bounds", blanks(5), math.MinInt, false},
		{"columns above all bounds", blanks(5), math.MaxInt, false},
		{"MaxSide columns", blanks(400), 400, true},
		{"MaxSide columns and rows", blanks(160000), 400, true},
		{"one column more", blanks(401), 401, false},
		{"MaxSide rows", blanks(400), 1, true},
		{"one row more", blanks(401), 1, false},
		{"one row more of MaxSide columns", blanks(160400), 400, false},
		{"one cell less than rows have", blanks(14), 5, false},
		{"one cell more than rows have", blanks(16), 5, false},
		{"one cell less than a row has", blanks(4), 5, false},
		{"one cell less than MaxSide rows have", blanks(159999), 400, false},
		{"one cell more than MaxSide rows have", blanks(160001), 400, false},
	})
}

func TestSoundHalves(t *testing.T) {
	checkSound(t, []soundCase{
		{"a wide one", screen("水"), 2, true},
		{"wide ones", screen("水a火", "b木c."), 5, true},
		{"wide ones at both ends", screen("水ab火"), 6, true},
		{"parted by a row's end", screen("a水b"), 2, false},
		{"parted by a row's end, of rows of one", screen("水"), 1, false},
		{"a head at the end of all", screen("ab水")[:3], 3, false},
		{"a tail at the beginning of all", screen("水ab")[1:], 3, false},
		{"a tail at a row's beginning", with(screen("ab", "cd"), 2, api.Cell{Part: 2}), 2, false},
		{"a head ahead of a letter", with(screen("abc"), 0, api.Cell{Text: "水", Part: 1}), 3, false},
		{"a head ahead of a head", with(screen("水水"), 1, api.Cell{Text: "水", Part: 1}), 4, false},
		{"a head ahead of a head with its tail", with(screen("a水"), 0, api.Cell{Text: "水", Part: 1}), 3, false},
		{"a tail behind a letter", with(screen("abc"), 1, api.Cell{Part: 2}), 3, false},
		{"a tail behind a tail", with(screen("水a"), 2, api.Cell{Part: 2}), 3, false},
		{"a tail with a Text", with(screen("水a"), 1, api.Cell{Text: " ", Part: 2}), 3, false},
		{"a tail with its head's Text", with(screen("水a"), 1, api.Cell{Text: "水", Part: 2}), 3, false},
		{"halves of one Style", dyed(screen("水a"), loud, 0, 1), 3, true},
		{"a head of another Style", dyed(screen("水a"), red, 0), 3, false},
		{"a tail of another Style", dyed(screen("水a"), red, 1), 3, false},
		{"halves that differ in Bold", dyed(screen("水a"), api.Style{Bold: 1}, 1), 3, false},
		{"Part 3", []api.Cell{{Text: "a", Part: 3}}, 1, false},
		{"Part -1", []api.Cell{{Text: "a", Part: -1}}, 1, false},
		{"Part -1 with no Text", []api.Cell{{Part: -1}}, 1, false},
		{"Part 3 behind a head", with(screen("水a"), 1, api.Cell{Part: 3}), 3, false},
		{"Part above all bounds", []api.Cell{{Text: "a", Part: math.MaxInt}}, 1, false},
		{"Part below all bounds", []api.Cell{{Text: "a", Part: math.MinInt}}, 1, false},
		{"Part that a byte would take for 0", []api.Cell{{Text: "a", Part: 256}}, 1, false},
		{"the last cell of many", with(blanks(160000), 159999, api.Cell{Part: 2}), 400, false},
	})
}

func TestSoundStyles(t *testing.T) {
	var cases []soundCase
	for n := -2; n <= 10; n++ {
		isColour := n >= 0 && n <= 8
		cases = append(cases,
			soundCase{"a Fg", dyed(text("a"), api.Style{Fg: n}, 0), 1, isColour},
			soundCase{"a Bg", dyed(text("a"), api.Style{Bg: n}, 0), 1, isColour},
			soundCase{"a Bold", dyed(text("a"), api.Style{Bold: n}, 0), 1, n == 0 || n == 1},
			soundCase{"a Fg of both halves", dyed(wide("水"), api.Style{Fg: n}, 0, 1), 2, isColour},
		)
	}
	for _, n := range []int{math.MinInt, -1 << 32, 256, 1 << 32, 1<<32 + 1, math.MaxInt} {
		cases = append(cases,
			soundCase{"a Fg far off", dyed(text("a"), api.Style{Fg: n}, 0), 1, false},
			soundCase{"a Bg far off", dyed(text("a"), api.Style{Bg: n}, 0), 1, false},
			soundCase{"a Bold far off", dyed(text("a"), api.Style{Bold: n}, 0), 1, false},
		)
	}
	checkSound(t, cases)
}

func TestSoundTexts(t *testing.T) {
	const marks = "\u0301\u0302\u0303\u0304"
	checkSound(t, []soundCase{
		{"a letter", text("a"), 1, true},
		{"a blank", text(" "), 1, true},
		{"of two bytes", text("é"), 1, true},
		{"of four bytes", text("\U00010000"), 1, true},
		{"U+FFFD", text("\uFFFD"), 1, true},
		{"160", text("\u00A0"), 1, true},
		{"a mark behind a letter", text("e\u0301"), 1, true},
		{"a mark behind a blank", text(" \u0301"), 1, true},
		{"MaxMarks of them", text("e" + marks), 1, true},
		{"one mark more", text("e" + marks + "\u0305"), 1, false},
		{"a wide one", wide("水"), 2, true},
		{"a wide one with a mark", wide("水\u0301"), 2, true},
		{"a wide one with MaxMarks of them", wide("水" + marks), 2, true},
		{"a wide one with one mark more", wide("水" + marks + "\u0305"), 2, false},

		{"none", text(""), 1, false},
		{"none in a head", wide(""), 2, false},
		{"two clusters", text("ab"), 1, false},
		{"two blanks", text("  "), 1, false},
		{"two clusters in a head", wide("水火"), 2, false},
		{"two narrow ones in a head", wide("ab"), 2, false},
		{"a wide and a narrow one in a head", wide("水a"), 2, false},
		{"a newline", text("\n"), 1, false},
		{"a newline in a head", wide("\n"), 2, false},
		{"a letter and a newline", text("a\n"), 1, false},
		{"a newline and a letter", text("\na"), 1, false},
		{"a wide one in one column", text("水"), 1, false},
		{"a narrow one in a head", wide("a"), 2, false},
		{"a mark alone", text("\u0301"), 1, false},
		{"a mark alone in a head", wide("\u0301"), 2, false},
		{"a control", text("\x1b"), 1, false},
		{"a tab", text("\t"), 1, false},
		{"127", text("\x7F"), 1, false},
		{"128", text("\u0080"), 1, false},
		{"159", text("\u009F"), 1, false},
		{"a byte that is none", text("\xFF"), 1, false},
		{"half a rune", text("\xE6\xB0"), 1, false},
		{"a letter and half a mark", text("e\xCC"), 1, false},
		{"a mark in six bytes", text("e\xED\xA0\x80"), 1, false},
		{"a very long one", text(strings.Repeat("a", 1000000)), 1, false},
		{"very many marks", text("a" + strings.Repeat("\u0301", 1000000)), 1, false},
	})
}
