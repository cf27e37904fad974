package paint

import (
	"math"
	"slices"
	"strconv"
	"strings"
	"testing"

	"pane/api"
)

// framed answers the cells of a tree that is right.
func framed(t testing.TB, text string, w, h int, scrolls []api.Scroll) []api.Cell {
	t.Helper()
	cells, errno, place := Frame(text, w, h, scrolls)
	if errno != api.OK || place != 0 {
		t.Fatalf("Frame(%q, %d, %d, %v) answers %d at %d", text, w, h, scrolls, errno, place)
	}
	if len(cells) != w*h {
		t.Fatalf("Frame(%q, %d, %d, %v) has %d cells", text, w, h, scrolls, len(cells))
	}
	return cells
}

// picture shows the rows, each with a | behind it, and tells of each cell what word says.
func picture(cells []api.Cell, w int, word func(api.Cell) string) string {
	var out strings.Builder
	for row := range slices.Chunk(cells, w) {
		for _, cell := range row {
			out.WriteString(word(cell))
		}
		out.WriteString("|")
	}
	return out.String()
}

// shown is a cell's Text, a blank as a point; a wide one has < behind its head, > for its tail.
func shown(c api.Cell) string {
	text := strings.ReplaceAll(c.Text, " ", ".")
	switch c.Part {
	case 0:
		return text
	case 1:
		return text + "<"
	case 2:
		return text + ">"
	}
	return "?"
}

func fgOf(c api.Cell) string   { return strconv.Itoa(c.Style.Fg) }
func bgOf(c api.Cell) string   { return strconv.Itoa(c.Style.Bg) }
func boldOf(c api.Cell) string { return strconv.Itoa(c.Style.Bold) }

type frameCase struct {
	name, text string
	w, h       int
	scrolls    []api.Scroll
	want       string // the Texts
	fg, bg     string // left out: plain
	bold       string
}

func checkFrames(t *testing.T, cases []frameCase) {
	for _, c := range cases {
		t.Run(c.name, func(t *testing.T) {
			cells := framed(t, c.text, c.w, c.h, c.scrolls)
			plain := strings.Repeat(strings.Repeat("0", c.w)+"|", c.h)
			for _, part := range []struct {
				name, want, without string
				word                func(api.Cell) string
			}{
				{"the Texts", c.want, strings.Repeat(strings.Repeat(".", c.w)+"|", c.h), shown},
				{"Fg", c.fg, plain, fgOf},
				{"Bg", c.bg, plain, bgOf},
				{"Bold", c.bold, plain, boldOf},
			} {
				want := part.want
				if want == "" {
					want = part.without
				}
				if got := picture(cells, c.w, part.word); got != want {
					t.Errorf("%s of %q:\ngot  %s\nwant %s", part.name, c.text, got, want)
				}
			}
		})
	}
}

func to(id, off int) []api.Scroll { return []api.Scroll{{Id: id, Off: off}} }

func TestNodesThatPaintNothing(t *testing.T) {
	checkFrames(t, []frameCase{
		{name: "a gap", text: "gap", w: 3, h: 2},
		{name: "a row", text: "row[]", w: 3, h: 2},
		{name: "a col", text: "col[]", w: 3, h: 2},
		{name: "a stack", text: "stack[]", w: 3, h: 2},
		{name: "a scroll", text: "scroll[gap]", w: 3, h: 2},
		{name: "kinds in kinds", text: "stack[row[col[scroll[gap]],gap],gap]", w: 4, h: 3},
		{name: "with an fg and bold alone", text: "row{fg=3;bold=1}[gap{fg=4},col{bold=1}[]]", w: 4, h: 3},
	})
}

func TestStyles(t *testing.T) {
	checkFrames(t, []frameCase{
		{name: "plain at the first node", text: `text"ab"`, w: 3, h: 1, want: "ab.|"},
		{name: "an fg of its own", text: `text{fg=3}"ab"`, w: 3, h: 1, want: "ab.|", fg: "333|"},
		{name: "the least fg", text: `text{fg=1}"ab"`, w: 3, h: 1, want: "ab.|", fg: "111|"},
		{name: "the greatest fg", text: `text{fg=8}"ab"`, w: 3, h: 1, want: "ab.|", fg: "888|"},
		{name: "a bg of its own", text: `text{bg=3}"ab"`, w: 3, h: 1, want: "ab.|", bg: "333|"},
		{name: "the least bg", text: `text{bg=1}"ab"`, w: 3, h: 1, want: "ab.|", bg: "111|"},
		{name: "the greatest bg", text: `text{bg=8}"ab"`, w: 3, h: 1, want: "ab.|", bg: "888|"},
		{name: "bold of its own", text: `text{bold=1}"ab"`, w: 3, h: 1, want: "ab.|", bold: "111|"},
		{name: "all written as 0", text: `text{fg=0;bg=0;bold=0}"ab"`, w: 3, h: 1, want: "ab.|"},
		{name: "all three", text: `text{fg=1;bg=2;bold=1}"ab"`, w: 3, h: 1, want: "ab.|", fg: "111|", bg: "222|", bold: "111|"},

		{name: "an fg from around", text: `row{fg=3}[text"a",text{fg=0}"b"]`, w: 2, h: 1, want: "ab|", fg: "33|"},
		{name: "its own fg, not that around", text: `row{fg=3}[text{fg=4}"a",text"b"]`, w: 2, h: 1, want: "ab|", fg: "43|"},
		{name: "a bg from around", text: `row{bg=3}[text"a",text{bg=0}"b"]`, w: 2, h: 1, want: "ab|", bg: "33|"},
		{name: "its own bg, not that around", text: `row{bg=3}[text{bg=4}"a",text"b"]`, w: 2, h: 1, want: "ab|", bg: "43|"},
		{name: "bold from around", text: `row{bold=1}[text"a",text{bold=0}"b"]`, w: 2, h: 1, want: "ab|", bold: "11|"},
		{name: "bold of one kid alone", text: `row[text{bold=1}"a",text"b"]`, w: 2, h: 1, want: "ab|", bold: "10|"},
		{name: "fg, bg and bold are not asked together", text: `row{fg=3;bg=4;bold=1}[text{fg=5}"a",text{bg=6}"b"]`, w: 2, h: 1, want: "ab|", fg: "53|", bg: "46|", bold: "11|"},

		{name: "from far around", text: `row{fg=3}[col{bg=4}[stack{bold=1}[box{border=0}[scroll[text"a"]]]]]`, w: 2, h: 1, want: "a.|", fg: "33|", bg: "44|", bold: "11|"},
		{name: "from the nearest one around", text: `row{fg=3;bg=3}[col{fg=4}[row{bg=5}[text"a"]]]`, w: 2, h: 1, want: "a.|", fg: "44|", bg: "55|"},
		{name: "not from the node ahead", text: `row[row{fg=3;bg=4;bold=1}[text"a"],text"b"]`, w: 2, h: 1, want: "ab|", fg: "30|", bg: "40|", bold: "10|"},
		{name: "not from the kids", text: `stack[box[text{fg=3;bg=4;bold=1}"a"],gap{fg=5}]`, w: 3, h: 3, want: "┌─┐|│a│|└─┘|", fg: "000|030|000|", bg: "000|040|000|", bold: "000|010|000|"},
		{name: "not from what lies below", text: `stack[gap{fg=3;bg=4;bold=1},text"a"]`, w: 2, h: 2, want: "a.|..|", fg: "00|33|", bg: "00|44|", bold: "00|11|"},
		{name: "a border has the box's style", text: `box{fg=3;bg=4;bold=1}[gap]`, w: 3, h: 3, want: "┌─┐|│.│|└─┘|", fg: "333|333|333|", bg: "444|444|444|", bold: "111|111|111|"},
		{name: "a border has a style from around", text: `row{fg=3;bold=1}[box[gap]]`, w: 3, h: 3, want: "┌─┐|│.│|└─┘|", fg: "333|303|333|", bold: "111|101|111|"},
		{name: "a wide cell has it in both halves", text: `text{fg=3;bg=4;bold=1}"水"`, w: 2, h: 1, want: "水<>|", fg: "33|", bg: "44|", bold: "11|"},
	})
}

func TestFills(t *testing.T) {
	checkFrames(t, []frameCase{
		{name: "a bg of 0", text: "stack[gap{bg=3},gap{bg=0;fg=5;bold=1}]", w: 2, h: 2, bg: "33|33|"},
		{name: "a bg from around fills nothing anew", text: `stack{bg=3}[text{fg=1}"ab",gap{fg=2}]`, w: 2, h: 2, want: "ab|..|", fg: "11|00|", bg: "33|33|"},
		{name: "every place of the rectangle", text: "gap{bg=3;fg=2;bold=1}", w: 3, h: 2, fg: "222|222|", bg: "333|333|", bold: "111|111|"},
		{name: "a rectangle within", text: "box{border=0;pad=1}[gap{bg=3}]", w: 4, h: 3, bg: "0000|0330|0000|"},
		{name: "beneath a border", text: "box{bg=3}[gap]", w: 3, h: 2, want: "┌─┐|└─┘|", bg: "333|333|"},
		{name: "a box too small for a border", text: "box{bg=3}[gap]", w: 1, h: 3, bg: "3|3|3|"},
		{name: "beneath a text", text: `text{bg=3}"a"`, w: 2, h: 2, want: "a.|..|", bg: "33|33|"},
		{name: "every kind", text: `row[row{bg=1}[],col{bg=2}[],stack{bg=3}[],box{bg=4}[gap],scroll{bg=5}[gap],text{bg=6}"",gap{bg=7}]`, w: 7, h: 1, bg: "1234567|"},
		{name: "over what was painted", text: `stack[text"ab",gap{bg=3}]`, w: 2, h: 1, bg: "33|"},
		{name: "over the half of a wide cell", text: `stack[text{fg=5}"水水",row[gap,gap{bg=3;weight=2},gap]]`, w: 4, h: 1, fg: "5005|", bg: "0330|"},
		{name: "the gaps of a row stay", text: "row{gap=1}[gap{bg=3},gap{bg=4}]", w: 5, h: 1, bg: "33044|"},
		{name: "a rectangle without places", text: `row[text{weight=0}"abc",gap{bg=3}]`, w: 3, h: 1, want: "abc|"},
		{name: "beyond the clip, above", text: `col[text{max=1}"x",scroll{id=1}[col{bg=3}[text{weight=0}"a\nb\nc"]]]`, w: 2, h: 3, scrolls: to(1, 1), want: "x.|b.|c.|", bg: "00|33|33|"},
		{name: "beyond the clip, below", text: `col[scroll{id=1}[box{bg=3;border=0}[text{wrap=0}"a\nb\nc"]],text{max=1}"x"]`, w: 2, h: 3, want: "a.|b.|x.|", bg: "33|33|00|"},
		{name: "wholly below the clip", text: `col[scroll{id=1;max=2}[col[text{weight=0}"a\nb",text{weight=0;bg=3}"y"]],text"x"]`, w: 2, h: 3, want: "a.|b.|x.|"},
		{name: "wholly above the clip", text: `col[text{max=1}"x",scroll{id=1}[col[text{weight=0;bg=3}"y",text{weight=0}"a\nb"]]]`, w: 2, h: 3, scrolls: to(1, 1), want: "x.|a.|b.|"},
	})
}

func TestBorders(t *testing.T) {
	checkFrames(t, []frameCase{
		{name: "1 wide and 1 high", text: "box[gap]", w: 1, h: 1},
		{name: "1 wide", text: "box[gap]", w: 1, h: 4},
		{name: "1 high", text: "box[gap]", w: 4, h: 1},
		{name: "1 wide and 2 high", text: "box[gap]", w: 1, h: 2},
		{name: "2 wide and 1 high", text: "box[gap]", w: 2, h: 1},
		{name: "2 wide and 2 high", text: "box[gap]", w: 2, h: 2, want: "┌┐|└┘|"},
		{name: "2 wide and higher", text: "box[gap]", w: 2, h: 4, want: "┌┐|││|││|└┘|"},
		{name: "wider and 2 high", text: "box[gap]", w: 5, h: 2, want: "┌───┐|└───┘|"},
		{name: "3 wide and 3 high", text: "box[gap]", w: 3, h: 3, want: "┌─┐|│.│|└─┘|"},
		{name: "wider and higher", text: "box[gap]", w: 5, h: 4, want: "┌───┐|│...│|│...│|└───┘|"},
		{name: "border written as 1", text: "box{border=1}[gap]", w: 2, h: 2, want: "┌┐|└┘|"},
		{name: "border 0", text: "box{border=0}[gap]", w: 3, h: 3},
		{name: "border 0 around a text", text: `box{border=0}[text"abc"]`, w: 3, h: 2, want: "abc|...|"},
		{name: "border 0 with a pad", text: `box{border=0;pad=1}[text"abc"]`, w: 3, h: 3, want: "...|.a.|...|"},
		{name: "with a pad", text: `box{pad=1}[text"a"]`, w: 5, h: 5, want: "┌───┐|│...│|│.a.│|│...│|└───┘|"},
		{name: "a pad that leaves no room", text: `box{pad=20}[text"a"]`, w: 3, h: 3, want: "┌─┐|│.│|└─┘|"},
		{name: "what it has within stays", text: `stack[text"abc\ndef\nghi",box[gap]]`, w: 3, h: 3, want: "┌─┐|│e│|└─┘|"},
		{name: "one in the other", text: "box[box[gap]]", w: 5, h: 4, want: "┌───┐|│┌─┐│|│└─┘│|└───┘|"},
		{name: "one in the other, too small", text: "box[box[gap]]", w: 3, h: 4, want: "┌─┐|│.│|│.│|└─┘|"},
		{name: "beside one another", text: "row{gap=1}[box[gap],box[gap]]", w: 7, h: 2, want: "┌─┐.┌─┐|└─┘.└─┘|"},
		{name: "below one another", text: "col[box[gap],box[gap]]", w: 3, h: 5, want: "┌─┐|│.│|└─┘|┌─┐|└─┘|"},
		{name: "a rectangle without places", text: `row[text{weight=0}"abc",box[gap]]`, w: 3, h: 2, want: "abc|...|"},
		{name: "over halves of wide cells", text: `stack[text{fg=1}"a水水b\na水水b",row[gap{max=2},box{max=2;fg=2}[gap],gap{max=2}]]`, w: 6, h: 2, want: "a.┌┐.b|a.└┘.b|", fg: "112211|112211|"},
	})
}

func TestBordersBeyondTheirClip(t *testing.T) {
	boxed := `col[text{max=1}"x",scroll{id=1;max=2}[box[text"a\nb"]],text{max=1}"y"]`
	lower := `col[text{max=1}"x",scroll{id=1;max=2}[col[text{weight=0}"1\n2\n3",box{weight=0}[text"a"]]],text{max=1}"y"]`
	checkFrames(t, []frameCase{
		{name: "its lower part", text: boxed, w: 3, h: 4, want: "x..|┌─┐|│a│|y..|"},
		{name: "both ends", text: boxed, w: 3, h: 4, scrolls: to(1, 1), want: "x..|│a│|│b│|y..|"},
		{name: "its upper part", text: boxed, w: 3, h: 4, scrolls: to(1, 2), want: "x..|│b│|└─┘|y..|"},
		{name: "wholly below it", text: lower, w: 3, h: 4, want: "x..|1..|2..|y..|"},
		{name: "wholly below it, just so", text: lower, w: 3, h: 4, scrolls: to(1, 1), want: "x..|2..|3..|y..|"},
		{name: "all but its first row", text: lower, w: 3, h: 4, scrolls: to(1, 2), want: "x..|3..|┌─┐|y..|"},
		{name: "wholly above it", text: `scroll{id=1}[col[box{weight=0}[text"a"],text{weight=0}"b\nc"]]`, w: 3, h: 2, scrolls: to(1, 3), want: "b..|c..|"},
		{name: "all but its last row", text: `scroll{id=1}[col[box{weight=0}[text"a"],text{weight=0}"b\nc"]]`, w: 3, h: 2, scrolls: to(1, 2), want: "└─┘|b..|"},
	})
}

func TestTexts(t *testing.T) {
	checkFrames(t, []frameCase{
		{name: "an empty one", text: `text""`, w: 3, h: 2},
		{name: "an empty one paints its line", text: `stack[text"abc\ndef",text{fg=3}""]`, w: 3, h: 2, want: "...|def|", fg: "333|000|"},
		{name: "an empty one of wrap 0 paints its line", text: `stack[text"abc\ndef",text{fg=3;wrap=0}""]`, w: 3, h: 2, want: "...|def|", fg: "333|000|"},
		{name: "as wide as it", text: `text"abc"`, w: 3, h: 1, want: "abc|"},
		{name: "wrapped at a blank", text: `text"ab cd"`, w: 3, h: 3, want: "ab.|cd.|...|"},
		{name: "wrapped in a word", text: `text"abcde"`, w: 3, h: 3, want: "abc|de.|...|"},
		{name: "wrap written as 1", text: `text{wrap=1}"ab cd"`, w: 3, h: 2, want: "ab.|cd.|"},
		{name: "cut", text: `text{wrap=0}"ab cd"`, w: 3, h: 2, want: "ab…|...|"},
		{name: "not cut, since it fits", text: `text{wrap=0}"abc"`, w: 3, h: 2, want: "abc|...|"},
		{name: "each paragraph is cut", text: `text{wrap=0}"abcd\nef\nghijk"`, w: 3, h: 3, want: "ab…|ef.|gh…|"},
		{name: "empty lines", text: `text"a\n\nb"`, w: 2, h: 4, want: "a.|..|b.|..|"},
		{name: "empty lines are painted", text: `stack[text"xx\nxx\nxx\nxx",text{fg=3}"\na\n"]`, w: 2, h: 4, want: "..|a.|..|xx|", fg: "33|33|33|00|"},
		{name: "empty lines of wrap 0 are painted", text: `stack[text"xx\nxx\nxx\nxx",text{fg=3;wrap=0}"\na\n"]`, w: 2, h: 4, want: "..|a.|..|xx|", fg: "33|33|33|00|"},
		{name: "a newline as it is", text: "text\"a\nb\"", w: 2, h: 2, want: "a.|b.|"},
		{name: "an escaped quote", text: `text"\"\\"`, w: 2, h: 1, want: `"\|`},
		{name: "fewer lines than it is high", text: `text"a\nb"`, w: 1, h: 4, want: "a|b|.|.|"},
		{name: "as many lines as it is high", text: `text"a\nb"`, w: 1, h: 2, want: "a|b|"},
		{name: "more lines than it is high", text: `text"a\nb\nc"`, w: 1, h: 2, want: "a|b|"},
		{name: "more lines of wrap 0 than it is high", text: `text{wrap=0}"a\nb\nc"`, w: 1, h: 2, want: "a|b|"},
		{name: "more wrapped lines than it is high", text: `text"a b c d"`, w: 1, h: 2, want: "a|b|"},
		{name: "no line beyond its rectangle", text: `col[text{max=1}"a\nb\nc",gap]`, w: 1, h: 3, want: "a|.|.|"},
		{name: "0 high", text: `col[text{max=0}"a\nb",text"c"]`, w: 1, h: 2, want: "c|.|"},
		{name: "below the others", text: `col[text{weight=0}"a",text"b"]`, w: 2, h: 3, want: "a.|b.|..|"},
		{name: "beside the others", text: `row[text{weight=0}"ab",text"c"]`, w: 4, h: 1, want: "abc.|"},
		{name: "in a box", text: `box[text"ab cd"]`, w: 4, h: 4, want: "┌──┐|│ab│|│cd│|└──┘|"},
		{name: "controls", text: "text\"a\tb\x1bc\"", w: 6, h: 1, want: "a\uFFFDb\uFFFDc.|"},
		{name: "bytes that are no runes", text: "text\"\xffa\xe6\xb0\"", w: 5, h: 1, want: "\uFFFDa\uFFFD\uFFFD.|"},
		{name: "bytes that are no runes, cut", text: "text{wrap=0}\"\xffa\xe6\xb0\"", w: 3, h: 1, want: "\uFFFDa…|"},
	})
}

func TestNarrowTexts(t *testing.T) {
	checkFrames(t, []frameCase{
		{name: "0 wide", text: `row[text{max=0}"ab",text"c"]`, w: 2, h: 2, want: "c.|..|"},
		{name: "0 wide, of wrap 0", text: `row[text{max=0;wrap=0}"ab",text"c"]`, w: 2, h: 2, want: "c.|..|"},
		{name: "0 wide, the last one", text: `row[text{weight=0}"ab",text"c"]`, w: 2, h: 1, want: "ab|"},
		{name: "0 wide, to the right", text: `row[text"a",text{max=0;align=2}"b"]`, w: 2, h: 1, want: "a.|"},
		{name: "0 wide, of wrap 0, beyond the screen", text: `row{gap=9}[text"a",text{wrap=0}"b"]`, w: 2, h: 1},
		{name: "0 wide, with a bg", text: `row[text{max=0;bg=3}"ab",text"c"]`, w: 2, h: 1, want: "c.|"},
		{name: "1 wide", text: `text"ab c"`, w: 1, h: 4, want: "a|b|c|.|"},
		{name: "1 wide, of wrap 0", text: `text{wrap=0}"ab c"`, w: 1, h: 2, want: "…|.|"},
		{name: "1 wide, of wrap 0, it fits", text: `text{wrap=0}"a\nb"`, w: 1, h: 2, want: "a|b|"},
		{name: "1 wide, a wide one", text: `text"水"`, w: 1, h: 2},
		{name: "1 wide, a wide one is a line of blanks", text: `stack[text"xyz",row[gap,text{fg=3}"水",gap]]`, w: 3, h: 1, want: "x.z|", fg: "030|"},
		{name: "1 wide, a wide one among others", text: `text"a水b"`, w: 1, h: 4, want: "a|.|b|.|"},
		{name: "1 wide, of wrap 0, a wide one", text: `text{wrap=0}"水"`, w: 1, h: 2, want: "…|.|"},
	})
}

func TestAligns(t *testing.T) {
	checkFrames(t, []frameCase{
		{name: "to the left", text: `text{align=0}"ab"`, w: 5, h: 1, want: "ab...|"},
		{name: "to the middle", text: `text{align=1}"abc"`, w: 5, h: 1, want: ".abc.|"},
		{name: "to the middle, an odd number left", text: `text{align=1}"ab"`, w: 5, h: 1, want: ".ab..|"},
		{name: "to the right", text: `text{align=2}"ab"`, w: 5, h: 1, want: "...ab|"},
		{name: "each line by itself", text: `text{align=2}"a\nbcd\n\nef"`, w: 3, h: 4, want: "..a|bcd|...|.ef|"},
		{name: "wrapped lines", text: `text{align=1}"abc d"`, w: 3, h: 2, want: "abc|.d.|"},
		{name: "cut lines", text: `text{align=2;wrap=0}"abcd\nef"`, w: 3, h: 2, want: "ab…|.ef|"},
		{name: "a line that is full", text: `text{align=2}"abc"`, w: 3, h: 1, want: "abc|"},
		{name: "wide ones to the right", text: `text{align=2}"水"`, w: 5, h: 1, want: "...水<>|"},
		{name: "wide ones to the middle", text: `text{align=1}"水a"`, w: 6, h: 1, want: ".水<>a..|"},
		{name: "blanks ahead are painted", text: `stack[text"xyz",text{align=2;fg=3}"a"]`, w: 3, h: 1, want: "..a|", fg: "333|"},
		{name: "blanks behind are painted", text: `stack[text"xyz",text{fg=3}"a"]`, w: 3, h: 1, want: "a..|", fg: "333|"},
		{name: "blanks around are painted", text: `stack[text"xyz",text{align=1;fg=3;bold=1}"a"]`, w: 3, h: 1, want: ".a.|", fg: "333|", bold: "111|"},
		{name: "within its rectangle", text: `row[gap{max=1},text{align=2}"a",gap{max=2}]`, w: 6, h: 1, want: "...a..|"},
		{name: "a mark at its beginning keeps its blank", text: "text{align=2}\"\u0301a\"", w: 4, h: 1, want: "...\u0301a|"},
	})
}

func TestWideClustersAndMarks(t *testing.T) {
	checkFrames(t, []frameCase{
		{name: "wide ones", text: `text"水火"`, w: 5, h: 1, want: "水<>火<>.|"},
		{name: "wide and narrow ones", text: `text"a水b"`, w: 4, h: 1, want: "a水<>b|"},
		{name: "wrapped ahead of one", text: `text"a水火"`, w: 4, h: 2, want: "a水<>.|火<>..|"},
		{name: "none is cut by the screen", text: `text"水火"`, w: 3, h: 2, want: "水<>.|火<>.|"},
		{name: "cut ahead of one", text: `text{wrap=0}"a水火"`, w: 4, h: 1, want: "a水<>…|"},
		{name: "cut ahead of one that half fits", text: `text{wrap=0}"水火b"`, w: 4, h: 1, want: "水<>….|"},
		{name: "cut ahead of one that half fits, to the right", text: `text{wrap=0;align=2}"水火b"`, w: 4, h: 1, want: ".水<>…|"},
		{name: "cut ahead of the first one", text: `text{wrap=0}"水火"`, w: 2, h: 1, want: "….|"},
		{name: "none is cut by its rectangle", text: `row[text"水火",text"bcd"]`, w: 6, h: 2, want: "水<>.bcd|火<>....|"},
		{name: "in a row above the clip", text: `scroll{id=1}[text"水\n火\n木"]`, w: 2, h: 1, scrolls: to(1, 1), want: "火<>|"},
		{name: "its tail is painted over", text: `stack[text{fg=1}"水b",row[gap{max=1},text{fg=2}"x"]]`, w: 3, h: 1, want: ".x.|", fg: "122|"},
		{name: "its head is painted over", text: `stack[text{fg=1}"a水b",row[gap{max=1},text{fg=2;max=1}"x"]]`, w: 4, h: 1, want: "ax.b|", fg: "1211|"},
		{name: "over a wide one", text: `stack[text{fg=1}"水b",text{fg=2}"火"]`, w: 3, h: 1, want: "火<>.|", fg: "222|"},
		{name: "over two halves", text: `stack[text{fg=1}"水水",row[gap{max=1},text{fg=2;max=2}"火"]]`, w: 4, h: 1, want: ".火<>.|", fg: "1221|"},

		{name: "marks stay with their base", text: "text\"e\u0301a\"", w: 3, h: 1, want: "e\u0301a.|"},
		{name: "marks of a wide one", text: "text\"水\u0301a\"", w: 4, h: 1, want: "水\u0301<>a.|"},
		{name: "a mark that has no base", text: "text\"\u0301a\"", w: 3, h: 1, want: ".\u0301a.|"},
		{name: "a mark behind a newline", text: "text\"a\n\u0301b\"", w: 2, h: 2, want: "a.|.\u0301b|"},
		{name: "a mark behind a newline, of wrap 0", text: "text{wrap=0}\"a\n\u0301b\"", w: 2, h: 2, want: "a.|.\u0301b|"},
		{name: "marks alone", text: "text\"\u200b\u200b\"", w: 2, h: 1, want: ".\u200b\u200b.|"},
		{name: "four marks", text: "text\"a\u0301\u0302\u0303\u0304\"", w: 2, h: 1, want: "a\u0301\u0302\u0303\u0304.|"},
		{name: "five marks", text: "text\"a\u0301\u0302\u0303\u0304\u0305b\"", w: 2, h: 1, want: "a\u0301\u0302\u0303\u0304b|"},
		{name: "a mark takes no room", text: "text{wrap=0}\"a\u0301b\u0301c\u0301\"", w: 3, h: 1, want: "a\u0301b\u0301c\u0301|"},
		{name: "marks are cut with their base", text: "text{wrap=0}\"a\u0301b\u0301c\u0301\"", w: 2, h: 1, want: "a\u0301…|"},
		{name: "a mark behind the last column", text: "text\"ab\u0301c\"", w: 2, h: 2, want: "ab\u0301|c.|"},
	})
}

func TestScrolls(t *testing.T) {
	list := `scroll{id=7}[text"a\nb\nc\nd"]`
	checkFrames(t, []frameCase{
		{name: "none", text: list, w: 2, h: 2, want: "a.|b.|"},
		{name: "by 1", text: list, w: 2, h: 2, scrolls: to(7, 1), want: "b.|c.|"},
		{name: "to its end", text: list, w: 2, h: 2, scrolls: to(7, 2), want: "c.|d.|"},
		{name: "beyond its end", text: list, w: 2, h: 2, scrolls: to(7, 3), want: "c.|d.|"},
		{name: "as far as can be", text: list, w: 2, h: 2, scrolls: to(7, math.MaxInt), want: "c.|d.|"},
		{name: "below 0", text: list, w: 2, h: 2, scrolls: to(7, -1), want: "a.|b.|"},
		{name: "as far below 0 as can be", text: list, w: 2, h: 2, scrolls: to(7, math.MinInt), want: "a.|b.|"},
		{name: "another id", text: list, w: 2, h: 2, scrolls: to(8, 1), want: "a.|b.|"},
		{name: "ids that no tree has", text: list, w: 2, h: 2, scrolls: []api.Scroll{{Id: -7, Off: 1}, {Id: math.MaxInt, Off: 1}, {Id: math.MinInt, Off: 1}, {Id: 7 + 1<<32, Off: 1}}, want: "a.|b.|"},
		{name: "the last one holds", text: list, w: 2, h: 2, scrolls: []api.Scroll{{Id: 7, Off: 2}, {Id: 8, Off: 0}, {Id: 7, Off: 1}, {Id: 9, Off: 2}}, want: "b.|c.|"},
		{name: "without an id", text: `scroll[text"a\nb\nc"]`, w: 2, h: 2, scrolls: to(0, 1), want: "a.|b.|"},
		{name: "an id that is no scroll's", text: `text{id=7}"a\nb\nc"`, w: 2, h: 2, scrolls: to(7, 1), want: "a.|b.|"},
		{name: "all of it is seen anyway", text: `scroll{id=7}[text"a"]`, w: 2, h: 2, scrolls: to(7, 1), want: "a.|..|"},
		{name: "cut lines", text: `scroll{id=7}[text{wrap=0}"abcd\nefgh\nij"]`, w: 3, h: 2, scrolls: to(7, 1), want: "ef…|ij.|"},
		{name: "what stands around stays", text: `box[scroll{id=7}[text"a\nb\nc"]]`, w: 3, h: 3, scrolls: to(7, 1), want: "┌─┐|│b│|└─┘|"},
		{name: "one in the other", text: `scroll{id=1}[col[text{weight=0}"a\nb",scroll{id=2;weight=0;max=2}[text"c\nd\ne\nf"]]]`, w: 1, h: 3, scrolls: []api.Scroll{{Id: 1, Off: 1}, {Id: 2, Off: 1}}, want: "b|d|e|"},
		{name: "two beside one another", text: `row[scroll{id=1}[text"a\nb\nc"],scroll{id=2}[text"d\ne\nf"]]`, w: 2, h: 2, scrolls: []api.Scroll{{Id: 2, Off: 1}}, want: "ae|bf|"},
		{name: "an empty clip within", text: `scroll{id=1}[col[scroll{id=2;weight=0}[text{bg=3}"a\nb"],text{weight=0}"c\nd"]]`, w: 1, h: 2, scrolls: []api.Scroll{{Id: 1, Off: 2}}, want: "c|d|"},
	})
}

func TestNodesOverOneAnother(t *testing.T) {
	checkFrames(t, []frameCase{
		{name: "two texts", text: `stack[text"ab\ncd",text"x"]`, w: 2, h: 2, want: "x.|cd|"},
		{name: "the other way round", text: `stack[text"x",text"ab\ncd"]`, w: 2, h: 2, want: "ab|cd|"},
		{name: "three of them", text: `stack[text{fg=1}"a\na\na",text{fg=2}"b\nb",text{fg=3}"c"]`, w: 1, h: 3, want: "c|b|a|", fg: "3|2|1|"},
		{name: "a bg hides a text", text: `stack[text"ab",gap{bg=1}]`, w: 2, h: 1, bg: "11|"},
		{name: "a text over a bg", text: `stack[gap{bg=1},text{bg=2}"a"]`, w: 2, h: 2, want: "a.|..|", bg: "22|22|"},
		{name: "a kid over the node around it", text: `box{bg=1}[text{bg=2}"a"]`, w: 3, h: 3, want: "┌─┐|│a│|└─┘|", bg: "111|121|111|"},
		{name: "a box over a box", text: `stack[box{fg=1}[text"ab"],row[gap{max=1},box{fg=2}[gap]]]`, w: 4, h: 3, want: "┌┌─┐|││b│|└└─┘|", fg: "1222|1212|1222|"},
		{name: "the kids of one ahead of the next one", text: `stack[col{bg=1}[text{bg=2}"a"],row[text{bg=3;max=1}"b",gap]]`, w: 2, h: 1, want: "b.|", bg: "32|"},
	})
}
