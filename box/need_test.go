package box

import (
	"math"
	"strings"
	"testing"

	"pane/api"
	"pane/tree"
)

func wantNeed(t *testing.T, text string, at, width, height int) {
	t.Helper()
	w, h, errno, place := Need(text, at)
	if w != width || h != height || errno != api.OK || place != 0 {
		t.Errorf("Need(%.200q, %d) = %d, %d, %d at %d, want %d, %d", text, at, w, h, errno, place, width, height)
	}
}

func TestNeed(t *testing.T) {
	for _, c := range []struct {
		name, text        string
		at, width, height int
	}{
		{"a text", `text"abc"`, 9, 3, 1},
		{"an empty text", `text""`, 9, 0, 1},
		{"wide clusters", "text\"水e\u0301\"", 9, 3, 1},
		{"bytes that are no rune", "text\"\xff\xe6\x01\"", 9, 3, 1},
		{"two paragraphs", `text"a\nbcd"`, 9, 3, 2},
		{"the first is the widest", `text"abcd\nef"`, 9, 4, 2},
		{"empty paragraphs", `text"\n\nab\n\n"`, 9, 2, 5},
		{"nothing but empty paragraphs", `text"\n\n"`, 9, 0, 3},
		{"a mark begins a paragraph", "text\"ab\\n\u0301\"", 9, 2, 2},
		{"a mark alone in its paragraph has a blank", "text\"\\n\u0301\"", 9, 1, 2},
		{"a newline as it is", "text\"a\nbc\"", 9, 2, 2},

		{"a text as wide as it needs", `text"ab cd"`, 5, 5, 1},
		{"a text in less", `text"ab cd"`, 4, 5, 2},
		{"a text in 1", `text"ab cd"`, 1, 5, 4},
		{"a text in 0", `text"ab cd"`, 0, 5, 0},
		{"an empty text in 1", `text""`, 1, 0, 1},
		{"an empty text in 0", `text""`, 0, 0, 0},
		{"wide ones in 1, and an empty line behind", `text"水水"`, 1, 4, 3},
		{"paragraphs in less", `text"a\nbcd\n\ne f"`, 2, 3, 6},
		{"wrap 1 as it stands", `text{wrap=1}"ab cd"`, 4, 5, 2},
		{"no wrap", `text{wrap=0}"ab cd"`, 4, 5, 1},
		{"no wrap in 1", `text{wrap=0}"ab cd\nef"`, 1, 5, 2},
		{"no wrap in 0", `text{wrap=0}"ab cd\nef"`, 0, 5, 0},
		{"no wrap, empty paragraphs", `text{wrap=0}"\na\n\n"`, 3, 1, 4},
		{"no wrap, an empty text", `text{wrap=0}""`, 3, 0, 1},
		{"align is nothing to it", `text{align=2}"ab"`, 9, 2, 1},

		{"a gap", "gap", 9, 0, 0},
		{"min, max and weight are nothing to it", "gap{min=5;max=7;weight=0}", 9, 0, 0},
		{"nor to a text", `text{min=5;max=1;weight=0}"abc"`, 9, 3, 1},

		{"an empty row", "row{gap=5}[]", 9, 0, 0},
		{"an empty col", "col{gap=5}[]", 9, 0, 0},
		{"an empty stack", "stack[]", 9, 0, 0},

		{"a row", `row[text"ab",text"cde",text"f"]`, 9, 6, 1},
		{"a row with gaps", `row{gap=2}[text"ab",text"cde",text"f"]`, 20, 10, 1},
		{"a row with one kid", `row{gap=2}[text"ab"]`, 9, 2, 1},
		{"a row of gaps", "row{gap=3}[gap,gap,gap,gap]", 9, 9, 0},
		{"a row is as high as its highest", `row[text"a",text"b\nc\nd",text"e\nf"]`, 9, 3, 3},

		{"a col", `col[text"ab",text"cde",text"f"]`, 9, 3, 3},
		{"a col with gaps", `col{gap=2}[text"ab",text"cde",text"f"]`, 20, 3, 7},
		{"a col with one kid", `col{gap=2}[text"ab"]`, 9, 2, 1},
		{"a col of gaps", "col{gap=3}[gap,gap,gap,gap]", 9, 0, 9},
		{"a col of gaps in 0", "col{gap=3}[gap,gap,gap,gap]", 0, 0, 9},
		{"a col hands its width on", `col[text"ab cd",text"ef gh ij"]`, 2, 8, 5},

		{"a stack", `stack[text"ab",text"cde",text"f\ng"]`, 9, 3, 2},
		{"a stack hands its width on", `stack[text"ab cd",text"ef gh ij"]`, 2, 8, 3},

		{"a scroll", `scroll[text"ab\nc"]`, 9, 2, 2},
		{"a scroll hands its width on", `scroll[text"ab cd"]`, 2, 5, 2},
		{"a scroll in 0", `scroll[text"ab cd"]`, 0, 5, 0},

		{"a box", `box[text"ab"]`, 9, 4, 3},
		{"a box without a border", `box{border=0}[text"ab"]`, 9, 2, 1},
		{"a box with a pad", `box{pad=2}[text"ab"]`, 9, 8, 7},
		{"a pad and no border", `box{border=0;pad=2}[text"ab"]`, 9, 6, 5},
		{"the greatest pad", `box{pad=20}[text"ab"]`, 100, 44, 43},
		{"a box hands less on", `box[text"ab cd"]`, 6, 7, 4},
		{"a box of just its frame and 1", `box[text"ab"]`, 3, 4, 4},
		{"a box of just its frame", `box[text"ab"]`, 2, 4, 2},
		{"a box narrower than its frame", `box[text"ab"]`, 1, 4, 2},
		{"a box of nothing", `box[text"ab"]`, 0, 4, 2},
		{"a box far narrower than its frame", `box{pad=20}[text"ab"]`, 3, 44, 42},
		{"a box of a gap", "box[gap]", 9, 2, 2},
		{"boxes in boxes", `box[box{pad=1}[box{border=0}[text"abc"]]]`, 7, 9, 9},

		{"all together", `col{gap=1}[text"abc",box{pad=1}[text"ab"]]`, 2, 6, 7},
		{"kinds in kinds", `row{gap=1}[col[text"ab",row{gap=2}[text"c",text"d"]],stack[text"e\nf\ng",box[gap]]]`, 30, 7, 3},
	} {
		t.Run(c.name, func(t *testing.T) { wantNeed(t, c.text, c.at, c.width, c.height) })
	}
}

// The heights of a row's kids hang on the widths that they get in it.
func TestNeedOfRows(t *testing.T) {
	for _, c := range []struct {
		name, text        string
		at, width, height int
	}{
		{"room for both", `row[text"ab cd",text"e"]`, 10, 6, 1},
		{"halves", `row[text"ab cd",text"e"]`, 6, 6, 2},
		{"less than they have", `row[text"ab cd",text"e"]`, 2, 6, 4},
		{"one gets nothing", `row[text"ab cd",text{min=9}"e"]`, 9, 6, 1},
		{"a gap between", `row{gap=4}[text"ab cd",text"e"]`, 10, 10, 2},
		{"a gap that leaves nothing", `row{gap=9}[text"ab cd",text"e"]`, 9, 15, 0},
		{"weights", `row[text{weight=4}"ab cd",text"e"]`, 6, 6, 1},
		{"no weight: what it needs", `row[text{weight=0}"ab cd",text"efgh"]`, 6, 9, 4},
		{"no weight, but a max", `row[text{weight=0;max=2}"ab cd",text"efgh"]`, 6, 9, 2},
		{"no weight, and a min above its need", `row[text{weight=0;min=5}"ab",text"efgh"]`, 6, 6, 4},
		{"a max", `row[text{max=2}"ab cd",text"efgh"]`, 6, 9, 2},
		{"a min", `row[text{min=5}"ab cd",text"efgh"]`, 7, 9, 4},
		{"a row in a row", `row[row[text"ab cd",gap],gap]`, 8, 5, 2},
		{"a row in a row, narrower", `row[row[text"ab cd",gap],gap]`, 4, 5, 4},
		{"a row in a col", `col[row[text"ab cd",gap],text"abcd"]`, 4, 5, 3},
		{"a row in a box", `box[row[text"ab cd",gap]]`, 6, 7, 4},
		{"no weight: a col's width is its widest", `row[col{weight=0}[text"a",text"bcd"],text"efgh"]`, 5, 7, 2},
		{"no weight: a box's width is its kid's and its frame", `row[box{weight=0}[text"ab"],text"efgh"]`, 6, 8, 3},
		{"in 0", `row[text"ab",text"c"]`, 0, 3, 0},
	} {
		t.Run(c.name, func(t *testing.T) { wantNeed(t, c.text, c.at, c.width, c.height) })
	}
}

func TestNeedAtTheEndsOfW(t *testing.T) {
	long := `text"` + strings.Repeat("a", 401) + `"`
	wantNeed(t, long, 400, 401, 2)
	wantNeed(t, long, 1, 401, 401)
	wantNeed(t, long, 0, 401, 0)
	for _, w := range []int{-1, 401, math.MinInt, math.MaxInt} {
		if width, height, errno, place := Need(long, w); width != 0 || height != 0 || errno != api.ErrRange || place != 0 {
			t.Errorf("Need(.., %d) = %d, %d, %d at %d, want 0, 0 and ErrRange", w, width, height, errno, place)
		}
	}
}

// wrongTexts has a text of each of Parse's errors.
var wrongTexts = []struct {
	name, text string
	errno      api.Errno
	place      int
}{
	{"too long", `text"` + strings.Repeat("a", 3995) + `"`, api.ErrLong, 0},
	{"nothing", "", api.ErrText, 0},
	{"no tree", "row[gap,]", api.ErrText, 8},
	{"no end", "row[", api.ErrText, 4},
	{"no kind", "row[gap,x]", api.ErrText, 8},
	{"too many", "row[" + strings.Repeat("gap,", 99) + "gap]", api.ErrMany, 400},
	{"too deep", strings.Repeat("box[", 12) + "gap" + strings.Repeat("]", 12), api.ErrDeep, 48},
	{"an attribute twice", "gap{id=1;id=2}", api.ErrTwice, 9},
	{"an id twice", "row{id=1}[gap{id=1}]", api.ErrTwice, 17},
	{"a number too great", "row{gap=101}[]", api.ErrRange, 8},
	{"no such attribute", "gap{pad=1}", api.ErrNone, 4},
}

func TestNeedHasTheErrorsOfParse(t *testing.T) {
	for _, c := range wrongTexts {
		t.Run(c.name, func(t *testing.T) {
			for _, at := range []int{5, 0, -1, 401} {
				w, h, errno, place := Need(c.text, at)
				if w != 0 || h != 0 || errno != c.errno || place != c.place {
					t.Errorf("Need(.., %d) = %d, %d, %d at %d, want %d at %d", at, w, h, errno, place, c.errno, c.place)
				}
			}
		})
	}
}

func TestNeedOfGreatTrees(t *testing.T) {
	newlines := strings.Repeat("\n", 3994)
	wantNeed(t, `text"`+newlines+`"`, 1, 0, 3995)
	wantNeed(t, `text{wrap=0}"`+newlines[:3986]+`"`, 1, 0, 3987)
	wantNeed(t, `text"`+strings.Repeat("a", 3994)+`"`, 1, 3994, 3994)
	wantNeed(t, "row{gap=100}["+strings.Repeat("gap,", 98)+"gap]", 400, 9800, 0)
	wantNeed(t, "col{gap=100}["+strings.Repeat("gap,", 98)+"gap]", 400, 0, 9800)
	wantNeed(t, strings.Repeat("box{pad=20}[", 11)+"gap"+strings.Repeat("]", 11), 400, 462, 462)
	wantNeed(t, strings.Repeat("row[", 11)+`text"ab cd"`+strings.Repeat("]", 11), 3, 5, 2)
}

// node is one as without attributes.
func node(kind int, kids ...int) api.Node {
	return api.Node{Kind: kind, Kids: kids, Max: -1, Weight: 1, Border: 1, Wrap: 1}
}

func saying(text string) api.Node {
	n := node(tree.KindText)
	n.Text = text
	return n
}

// No text that may be parsed needs as much as MaxLength; so these nodes were never parsed.
func TestWhatIsNeededIsBounded(t *testing.T) {
	wide := saying(strings.Repeat("a", 60000))
	wider := saying(strings.Repeat("水", 60000))
	high := saying(strings.Repeat("\n", 59999))
	higher := saying(strings.Repeat("\n", 120000))
	higherUncut := higher
	higherUncut.Wrap = 0
	for _, c := range []struct {
		name          string
		nodes         []api.Node
		width, height int
	}{
		{"a text", []api.Node{wide}, 60000, 60000},
		{"a text above the bound", []api.Node{wider}, 100000, 60001},
		{"a text of many lines", []api.Node{high}, 0, 60000},
		{"a text of too many lines", []api.Node{higher}, 0, 100000},
		{"a text of too many paragraphs", []api.Node{higherUncut}, 0, 100000},
		{"a row", []api.Node{node(tree.KindRow, 1, 2), wide, wide}, 100000, 60000},
		{"a row within its bounds", []api.Node{node(tree.KindRow, 1, 2), wide, saying("ab")}, 60002, 60000},
		{"a col", []api.Node{node(tree.KindCol, 1, 2), high, high}, 0, 100000},
		{"a col within its bounds", []api.Node{node(tree.KindCol, 1, 2), high, saying("ab")}, 2, 60002},
		{"a box", []api.Node{node(tree.KindBox, 1), wider}, 100000, 2},
		{"a box around a box", []api.Node{node(tree.KindBox, 1), node(tree.KindBox, 2), wider}, 100000, 4},
		{"a box of too many lines", []api.Node{node(tree.KindBox, 1), node(tree.KindScroll, 2), higher}, 2, 2},
		{"a row in a row", []api.Node{node(tree.KindRow, 1, 4), node(tree.KindRow, 2, 3), wide, wide, wide}, 100000, 60000},
	} {
		t.Run(c.name, func(t *testing.T) {
			m := newMeasure(c.nodes)
			if m.widths[0] != c.width {
				t.Errorf("it needs %d columns, want %d", m.widths[0], c.width)
			}
			if got := m.height(0, 1); got != c.height {
				t.Errorf("it needs %d rows in 1 column, want %d", got, c.height)
			}
		})
	}
	inBox := newMeasure([]api.Node{node(tree.KindBox, 1), higher})
	if got := inBox.height(0, 3); got != 100000 {
		t.Errorf("a box around 100000 lines needs %d rows, want as many", got)
	}
}

// What a node needs at a width is asked for by all nodes around it.
func TestWhatIsNeededIsWorkedOnce(t *testing.T) {
	nodes, _, _ := tree.Parse(`col[row[text"ab cd",text"e"],scroll[text"f"]]`)
	m := newMeasure(nodes)
	first := m.height(0, 4)
	known := len(m.heights)
	if again := m.height(0, 4); again != first || len(m.heights) != known || known != len(nodes) {
		t.Errorf("asked twice: %d and %d, with %d and %d heights of %d nodes", first, again, known, len(m.heights), len(nodes))
	}
	m.heights[atWidth{node: 0, w: 4}] = 77
	if got := m.height(0, 4); got != 77 {
		t.Errorf("what is known is worked again: %d", got)
	}
	if got := m.height(0, 1); got == 77 {
		t.Error("what is known at one width is taken at another")
	}
}
