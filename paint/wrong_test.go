package paint

import (
	"math"
	"math/rand"
	"slices"
	"strings"
	"testing"

	"pane/api"
	"pane/box"
)

func wantErrno(t *testing.T, text string, w, h int, scrolls []api.Scroll, want api.Errno, wantPlace int) {
	t.Helper()
	cells, errno, place := Frame(text, w, h, scrolls)
	if cells != nil || errno != want || place != wantPlace {
		t.Errorf("Frame(%q, %d, %d, %v) = %d cells, %d at %d, want none, %d at %d", text, w, h, scrolls, len(cells), errno, place, want, wantPlace)
	}
}

// deep has so many nodes, one in the other.
func deep(n int) string {
	return strings.Repeat("box{border=0}[", n-1) + "gap" + strings.Repeat("]", n-1)
}

// wide has so many nodes.
func wide(n int) string {
	return "row[" + strings.Repeat("gap,", n-2) + "gap]"
}

func TestTextsThatAreNoTree(t *testing.T) {
	for _, c := range []struct {
		name, text string
		errno      api.Errno
		place      int
	}{
		{"nothing", "", api.ErrText, 0},
		{"blanks alone", " \n ", api.ErrText, 3},
		{"no kind", "rows[]", api.ErrText, 0},
		{"no kind, within", "row[ tex]", api.ErrText, 5},
		{"no body", "row", api.ErrText, 3},
		{"no end", `row[text"a"`, api.ErrText, 11},
		{"no end of a string", `text"a`, api.ErrText, 6},
		{"an escape that is none", `text"a\t"`, api.ErrText, 7},
		{"a kid too many", "box[gap,gap]", api.ErrText, 7},
		{"something behind it", "gap gap", api.ErrText, 4},
		{"a needless zero", "gap{fg=01}", api.ErrText, 7},
		{"too many digits", "gap{id=1000000}", api.ErrText, 7},
		{"a number below 0", "gap{fg=-1}", api.ErrText, 7},
		{"no tree, though a fault is ahead", "row[gap{none=1},", api.ErrText, 16},
		{"a name that no kind has", "gap{colour=1}", api.ErrNone, 4},
		{"a name of another kind", `text{border=1}"a"`, api.ErrNone, 5},
		{"a name twice", "gap{fg=1;fg=1}", api.ErrTwice, 9},
		{"an id twice", "row[gap{id=5},gap{id=5}]", api.ErrTwice, 21},
		{"an fg above its bound", "gap{fg=9}", api.ErrRange, 7},
		{"a bg above its bound", "gap{bg=9}", api.ErrRange, 7},
		{"a bold above its bound", "gap{bold=2}", api.ErrRange, 9},
		{"an align above its bound", `text{align=3}"a"`, api.ErrRange, 11},
		{"a wrap above its bound", `text{wrap=2}"a"`, api.ErrRange, 10},
		{"a border above its bound", "box{border=2}[gap]", api.ErrRange, 11},
		{"a node too many", wide(101), api.ErrMany, 4 + 4*99},
		{"a node too deep", deep(13), api.ErrDeep, 14 * 12},
		{"too long", `text"` + strings.Repeat("a", 3995) + `"`, api.ErrLong, 0},
		{"too long, and no tree", strings.Repeat("?", 4001), api.ErrLong, 0},
	} {
		t.Run(c.name, func(t *testing.T) {
			// Of several errors that of the text is named first.
			for _, side := range []int{math.MinInt, -1, 0, 1, 5, 400, 401, math.MaxInt} {
				wantErrno(t, c.text, side, 3, nil, c.errno, c.place)
				wantErrno(t, c.text, 3, side, to(5, 1), c.errno, c.place)
			}
		})
	}
}

func TestSides(t *testing.T) {
	sides := []int{math.MinInt, -400, -1, 0, 1, 2, 3, 399, 400, 401, 1<<32 + 3, math.MaxInt}
	for _, text := range []string{"gap", `text{fg=3}"ab"`, `box{bg=2}[text"ab"]`} {
		for _, w := range sides {
			for _, h := range sides {
				if w < 1 || w > 400 || h < 1 || h > 400 {
					wantErrno(t, text, w, h, to(1, 1), api.ErrRange, 0)
				} else {
					framed(t, text, w, h, to(1, 1))
				}
			}
		}
	}
}

func TestTheSmallestScreen(t *testing.T) {
	checkFrames(t, []frameCase{
		{name: "a text", text: `text{fg=1}"abc"`, w: 1, h: 1, want: "a|", fg: "1|"},
		{name: "a box", text: `box{bg=1}[text"abc"]`, w: 1, h: 1, bg: "1|"},
		{name: "a row", text: `row[text"a",text"b"]`, w: 1, h: 1, want: "a|"},
		{name: "a scroll", text: `scroll{id=1}[text"a\nb\nc"]`, w: 1, h: 1, scrolls: to(1, 2), want: "c|"},
	})
}

// TestTheGreatestScreen looks at the rows at both ends, and at all columns.
func TestTheGreatestScreen(t *testing.T) {
	cells := framed(t, `box{fg=2;bg=3}[text{align=2}"a"]`, 400, 400, nil)
	look := api.Style{Fg: 2, Bg: 3}
	for i, cell := range cells {
		x, y := i%400, i/400
		want := " "
		switch {
		case x == 0 && y == 0:
			want = "┌"
		case x == 399 && y == 0:
			want = "┐"
		case x == 0 && y == 399:
			want = "└"
		case x == 399 && y == 399:
			want = "┘"
		case y == 0 || y == 399:
			want = "─"
		case x == 0 || x == 399:
			want = "│"
		case x == 398 && y == 1:
			want = "a"
		}
		if cell != (api.Cell{Text: want, Style: look}) {
			t.Fatalf("the cell at %d, %d is %+v, want %q", x, y, cell, want)
		}
	}
}

// TestTheGreatestTrees: what is just within the bounds is painted.
func TestTheGreatestTrees(t *testing.T) {
	lines := strings.Repeat("\n", 3960)
	for _, c := range []frameCase{
		{text: wide(100), w: 400, h: 400},
		{text: deep(12), w: 400, h: 400},
		{text: `text"` + strings.Repeat("a", 3994) + `"`, w: 400, h: 400},
		{text: `scroll{id=999999}[text{bg=8}"` + lines + `"]`, w: 400, h: 400, scrolls: to(999999, 3000)},
		{text: `scroll{id=999999}[box{bg=8}[text"` + lines + `"]]`, w: 400, h: 400, scrolls: to(999999, math.MaxInt)},
		{text: "stack[" + strings.Repeat("gap{bg=1},", 98) + "gap]", w: 400, h: 400},
		{text: "stack[" + strings.Repeat("box{bg=1}[gap],", 48) + "gap]", w: 400, h: 400},
		{text: "row{gap=100}[" + strings.Repeat("gap{bg=1;min=100000},", 98) + "gap]", w: 400, h: 1},
	} {
		framed(t, c.text, c.w, c.h, c.scrolls)
	}
}

func TestScrollsAreNotChanged(t *testing.T) {
	var scrolls []api.Scroll
	for i := range 100000 {
		scrolls = append(scrolls, api.Scroll{Id: i % 10, Off: i})
	}
	scrolls = append(scrolls, api.Scroll{Id: 3, Off: 1})
	handed := slices.Clone(scrolls)
	cells := framed(t, `scroll{id=3}[text"a\nb\nc"]`, 1, 1, handed)
	if got, want := picture(cells, 1, shown), "b|"; got != want {
		t.Errorf("got %s, want %s", got, want)
	}
	if !slices.Equal(handed, scrolls) {
		t.Error("Frame changed the scrolls")
	}
}

func TestFramesShareNothing(t *testing.T) {
	text := `box{fg=1}[text"ab"]`
	first := framed(t, text, 4, 3, nil)
	kept := slices.Clone(first)
	second := framed(t, text, 4, 3, nil)
	for i := range second {
		second[i] = api.Cell{Text: "z", Part: 7}
	}
	if !slices.Equal(first, kept) {
		t.Error("a frame has changed with another one")
	}
	if again := framed(t, text, 4, 3, nil); !slices.Equal(again, kept) {
		t.Error("a frame hangs on the frames ahead of it")
	}
}

// TestTextsAtRandom: whatever the text is, the errors are those of Layout.
func TestTextsAtRandom(t *testing.T) {
	r := rand.New(rand.NewSource(8))
	signs := []string{"row", "col", "stack", "box", "scroll", "text", "gap", "[", "]", "{", "}", ",", ";", "=", `"`, `\`, " ", "\n", "fg", "bg", "bold", "id", "wrap", "1", "0", "9", "水", "\u0301", "\xff", "a"}
	refused, painted := 0, 0
	for range 20000 {
		text := (&planter{Rand: r}).tree(0)
		for range r.Intn(3) {
			at := r.Intn(len(text) + 1)
			upTo := min(len(text), at+r.Intn(3))
			text = text[:at] + signs[r.Intn(len(signs))] + text[upTo:]
		}
		w, h := r.Intn(12), r.Intn(7)
		cells, errno, place := Frame(text, w, h, to(1, 1))
		_, asked, wantPlace := box.Layout(text, w, h, to(1, 1))
		if errno != asked || place != wantPlace {
			t.Fatalf("Frame(%q, %d, %d) answers %d at %d, Layout %d at %d", text, w, h, errno, place, asked, wantPlace)
		}
		if errno != api.OK {
			refused++
		} else {
			painted++
		}
		if errno != api.OK && cells != nil || errno == api.OK && len(cells) != w*h {
			t.Fatalf("Frame(%q, %d, %d) answers %d and %d cells", text, w, h, errno, len(cells))
		}
	}
	if refused < 2000 || painted < 2000 {
		t.Errorf("only %d texts are refused, only %d painted", refused, painted)
	}
}
