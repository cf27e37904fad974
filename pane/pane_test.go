package pane

import (
	"math"
	"slices"
	"strconv"
	"strings"
	"testing"

	"pane/api"
)

func made(t testing.TB, w, h int) *Session {
	t.Helper()
	s, errno := New(w, h)
	if s == nil || errno != api.OK {
		t.Fatalf("New(%d, %d) = %v, %d", w, h, s, errno)
	}
	return s
}

func set(t testing.TB, s *Session, text string) {
	t.Helper()
	if errno, place := s.Set(text); errno != api.OK || place != 0 {
		t.Fatalf("Set(%q) = %d, %d", text, errno, place)
	}
}

func resize(t testing.TB, s *Session, w, h int) {
	t.Helper()
	if errno := s.Resize(w, h); errno != api.OK {
		t.Fatalf("Resize(%d, %d) = %d", w, h, errno)
	}
}

func scroll(t testing.TB, s *Session, id, by int) {
	t.Helper()
	if errno := s.Scroll(id, by); errno != api.OK {
		t.Fatalf("Scroll(%d, %d) = %d", id, by, errno)
	}
}

// picture has a row's texts one behind the other, blanks as '.', tails as '>', and '|' behind each row.
func picture(cells []api.Cell, w int) string {
	var b strings.Builder
	for i, c := range cells {
		switch {
		case c.Part == 2 && c.Text == "":
			b.WriteString(">")
		case c.Text == " " && c.Part == 0:
			b.WriteString(".")
		default:
			b.WriteString(c.Text)
		}
		if i%w == w-1 {
			b.WriteString("|")
		}
	}
	return b.String()
}

func wantPicture(t testing.TB, s *Session, w int, want string) {
	t.Helper()
	if got := picture(s.Screen(), w); got != want {
		t.Errorf("the screen is %s, want %s", got, want)
	}
}

func wantOffset(t testing.TB, s *Session, id, wantOff, wantRoom int) {
	t.Helper()
	off, room, errno := s.Offset(id)
	if off != wantOff || room != wantRoom || errno != api.OK {
		t.Errorf("Offset(%d) = %d, %d, %d, want %d, %d, 0", id, off, room, errno, wantOff, wantRoom)
	}
}

func wantNoScroll(t testing.TB, s *Session, id int) {
	t.Helper()
	if off, room, errno := s.Offset(id); off != 0 || room != 0 || errno != api.ErrNone {
		t.Errorf("Offset(%d) = %d, %d, %d, want 0, 0, ErrNone", id, off, room, errno)
	}
}

// look is what can be asked of a session without changing it: its screen, what its places hit, how far the scrolls of small ids are scrolled.
type look struct {
	screen  []api.Cell
	hits    []int
	offsets []int
}

func lookOf(s *Session, w, h int) look {
	l := look{screen: s.Screen()}
	for y := -1; y <= h; y++ {
		for x := -1; x <= w; x++ {
			node, errno := s.Hit(x, y)
			l.hits = append(l.hits, node, int(errno))
		}
	}
	for id := range 10 {
		off, room, errno := s.Offset(id)
		l.offsets = append(l.offsets, off, room, int(errno))
	}
	return l
}

func (l look) same(o look) bool {
	return slices.Equal(l.screen, o.screen) && slices.Equal(l.hits, o.hits) && slices.Equal(l.offsets, o.offsets)
}

// scrollOfLines is a scroll over a text of n lines that are numbered from 0 on.
func scrollOfLines(id, n int) string {
	var lines []string
	for i := range n {
		lines = append(lines, strconv.Itoa(i))
	}
	return "scroll{id=" + strconv.Itoa(id) + `}[text"` + strings.Join(lines, `\n`) + `"]`
}

var wrongSides = []int{math.MinInt, math.MinInt + 1, -1 << 32, -400, -1, 0, 401, 402, 1<<32 + 1, math.MaxInt}

func TestNewAtTheEndsOfItsSides(t *testing.T) {
	for _, w := range []int{1, 2, 399, 400} {
		for _, h := range []int{1, 2, 399, 400} {
			s := made(t, w, h)
			if got := s.Screen(); !slices.Equal(got, slices.Repeat([]api.Cell{{Text: " "}}, w*h)) {
				t.Errorf("a new session of %d, %d shows %d cells, or others than blanks", w, h, len(got))
			}
			if node, errno := s.Hit(w-1, h-1); node != 0 || errno != api.OK {
				t.Errorf("New(%d, %d): the last place hits %d, %d", w, h, node, errno)
			}
			if node, errno := s.Hit(w, h-1); node != 0 || errno != api.ErrRange {
				t.Errorf("New(%d, %d): a place to the right hits %d, %d", w, h, node, errno)
			}
			if node, errno := s.Hit(w-1, h); node != 0 || errno != api.ErrRange {
				t.Errorf("New(%d, %d): a place below hits %d, %d", w, h, node, errno)
			}
		}
	}
}

func TestNewOfWrongSides(t *testing.T) {
	wantNone := func(w, h int) {
		t.Helper()
		if s, errno := New(w, h); s != nil || errno != api.ErrRange {
			t.Errorf("New(%d, %d) = %v, %d, want nil, ErrRange", w, h, s, errno)
		}
	}
	for _, wrong := range wrongSides {
		for _, right := range []int{1, 5, 400} {
			wantNone(wrong, right)
			wantNone(right, wrong)
		}
		for _, other := range wrongSides {
			wantNone(wrong, other)
		}
	}
}

// TestNewHasAGap: a gap has one node and shows nothing, and no scroll is there.
func TestNewHasAGap(t *testing.T) {
	s, other := made(t, 4, 3), made(t, 4, 3)
	set(t, other, "gap")
	if !lookOf(s, 4, 3).same(lookOf(other, 4, 3)) {
		t.Error("a new session does not look as one with a gap")
	}
	for y := range 3 {
		for x := range 4 {
			if node, errno := s.Hit(x, y); node != 0 || errno != api.OK {
				t.Errorf("Hit(%d, %d) = %d, %d", x, y, node, errno)
			}
		}
	}
	if first, second := s.Render(), other.Render(); first != second {
		t.Errorf("a new session is rendered as %q, one with a gap as %q", first, second)
	}
}

// TestNewHasNothingScrolled: what is set in a new session begins at its top, whatever the id.
func TestNewHasNothingScrolled(t *testing.T) {
	for _, id := range []int{1, 2, 7, 999999} {
		s := made(t, 2, 2)
		set(t, s, scrollOfLines(id, 5))
		wantOffset(t, s, id, 0, 3)
		wantPicture(t, s, 2, "0.|1.|")
	}
}

func TestTwoSessionsShareNothing(t *testing.T) {
	one, other := made(t, 3, 2), made(t, 3, 2)
	set(t, one, scrollOfLines(1, 6))
	wantPicture(t, other, 3, "...|...|")
	wantNoScroll(t, other, 1)

	set(t, other, scrollOfLines(1, 6))
	scroll(t, one, 1, 2)
	wantOffset(t, one, 1, 2, 4)
	wantOffset(t, other, 1, 0, 4)
	scroll(t, other, 1, 3)
	wantOffset(t, one, 1, 2, 4)
	wantOffset(t, other, 1, 3, 4)

	first := one.Render()
	if got := other.Render(); !strings.HasPrefix(got, "\x1b[2J") {
		t.Errorf("behind the other one's Render the first one is %q", got)
	}
	resize(t, other, 3, 2)
	if got := one.Render(); got != "" {
		t.Errorf("behind a Resize of the other one Render is %q", got)
	}
	set(t, other, "gap")
	wantOffset(t, one, 1, 2, 4)
	wantPicture(t, one, 3, "2..|3..|")
	if again := made(t, 3, 2).Render(); again == first {
		t.Error("a new session shows what another one does")
	}
}

func TestResize(t *testing.T) {
	s := made(t, 4, 2)
	set(t, s, `text"abcdef gh"`)
	wantPicture(t, s, 4, "abcd|ef..|")
	for _, c := range []struct {
		w, h int
		want string
	}{
		{6, 2, "abcdef|gh....|"},
		{6, 1, "abcdef|"},
		{1, 3, "a|b|c|"},
		{1, 1, "a|"},
		{3, 4, "abc|def|gh.|...|"},
		{3, 4, "abc|def|gh.|...|"},
	} {
		resize(t, s, c.w, c.h)
		wantPicture(t, s, c.w, c.want)
		if _, errno := s.Hit(c.w-1, c.h-1); errno != api.OK {
			t.Errorf("Resize(%d, %d): the last place hits %d", c.w, c.h, errno)
		}
		if _, errno := s.Hit(c.w, c.h-1); errno != api.ErrRange {
			t.Errorf("Resize(%d, %d): a place to the right hits %d", c.w, c.h, errno)
		}
		if _, errno := s.Hit(c.w-1, c.h); errno != api.ErrRange {
			t.Errorf("Resize(%d, %d): a place below hits %d", c.w, c.h, errno)
		}
	}
}

func TestResizeAtTheEndsOfItsSides(t *testing.T) {
	s := made(t, 4, 2)
	for _, w := range []int{1, 2, 399, 400} {
		for _, h := range []int{1, 2, 399, 400} {
			resize(t, s, w, h)
			if got := len(s.Screen()); got != w*h {
				t.Errorf("Resize(%d, %d): the screen has %d cells", w, h, got)
			}
		}
	}
}

// TestResizeKeepsTheTreeAndWhatIsScrolled, also to the same size.
func TestResizeKeepsTheTreeAndWhatIsScrolled(t *testing.T) {
	s := made(t, 3, 2)
	set(t, s, scrollOfLines(4, 9))
	scroll(t, s, 4, 5)
	before := lookOf(s, 3, 2)
	resize(t, s, 3, 2)
	if !lookOf(s, 3, 2).same(before) {
		t.Error("a Resize to the same size changed something")
	}
	resize(t, s, 2, 3)
	wantOffset(t, s, 4, 5, 6)
	wantPicture(t, s, 2, "5.|6.|7.|")
	resize(t, s, 3, 2)
	if !lookOf(s, 3, 2).same(before) {
		t.Error("a Resize there and back changed something")
	}
}

func TestResizeThatIsRefused(t *testing.T) {
	s := made(t, 3, 2)
	set(t, s, scrollOfLines(4, 9))
	scroll(t, s, 4, 5)
	s.Render()
	before := lookOf(s, 3, 2)
	refuse := func(w, h int) {
		t.Helper()
		if errno := s.Resize(w, h); errno != api.ErrRange {
			t.Errorf("Resize(%d, %d) = %d, want ErrRange", w, h, errno)
		}
		if !lookOf(s, 3, 2).same(before) {
			t.Errorf("Resize(%d, %d) was refused and changed something", w, h)
		}
		if got := s.Render(); got != "" {
			t.Errorf("behind Resize(%d, %d), which was refused, Render is %q", w, h, got)
		}
	}
	for _, wrong := range wrongSides {
		for _, right := range []int{1, 2, 3, 400} {
			refuse(wrong, right)
			refuse(right, wrong)
		}
		refuse(wrong, wrong)
	}
}

// TestSet: each tree takes the place of the one ahead of it.
func TestSet(t *testing.T) {
	s := made(t, 4, 3)
	for _, c := range []struct{ name, text, want string }{
		{"a text", `text"hi"`, "hi..|....|....|"},
		{"another one", `text"ha"`, "ha..|....|....|"},
		{"a row", `row[text"a",text"b"]`, "a.b.|....|....|"},
		{"a col", `col[text"a",text"b",text"c"]`, "a...|b...|c...|"},
		{"a stack", `stack[text"abc",text"水"]`, "水>..|....|....|"},
		{"a box", `box[text"水"]`, "┌──┐|│水>│|└──┘|"},
		{"a scroll", scrollOfLines(1, 4), "0...|1...|2...|"},
		{"blanks and newlines", " row [\n text \"a\" ]\n", "a...|....|....|"},
		{"a gap", "gap", "....|....|....|"},
	} {
		t.Run(c.name, func(t *testing.T) {
			set(t, s, c.text)
			wantPicture(t, s, 4, c.want)
			set(t, s, c.text)
			wantPicture(t, s, 4, c.want)
		})
	}
}

func TestTheGreatestTrees(t *testing.T) {
	s := made(t, 400, 400)
	for _, text := range []string{wideTree(100), deepTree(12), `text"` + strings.Repeat("a", 3994) + `"`} {
		set(t, s, text)
	}
}

// wideTree has so many nodes.
func wideTree(n int) string { return "row[" + strings.Repeat("gap,", n-2) + "gap]" }

// deepTree has so many nodes, one in the other.
func deepTree(n int) string {
	return strings.Repeat("row[", n-1) + "gap" + strings.Repeat("]", n-1)
}

// wrongTrees are texts that Parse refuses, each with its error and its place.
var wrongTrees = []struct {
	name, text string
	errno      api.Errno
	place      int
}{
	{"nothing", "", api.ErrText, 0},
	{"blanks alone", " \n ", api.ErrText, 3},
	{"no kind", "rows[]", api.ErrText, 0},
	{"no body", "scroll{id=4}", api.ErrText, 12},
	{"no end of a string", `text"ha`, api.ErrText, 7},
	{"something behind it", "gap gap", api.ErrText, 4},
	{"a needless zero", "gap{id=04}", api.ErrText, 7},
	{"too many digits", "gap{id=1000000}", api.ErrText, 7},
	{"a number below 0", "scroll{id=-4}[gap]", api.ErrText, 10},
	{"bytes that are no text", "\xff\x00", api.ErrText, 0},
	{"no tree, though a fault is ahead", "row[gap{none=1},", api.ErrText, 16},
	{"a name that no kind has", "gap{colour=1}", api.ErrNone, 4},
	{"a name of another kind", "scroll{id=4;gap=1}[gap]", api.ErrNone, 12},
	{"a name twice", "scroll{id=4;id=4}[gap]", api.ErrTwice, 12},
	{"an id twice", "row[scroll{id=4}[gap],gap{id=4}]", api.ErrTwice, 29},
	{"a number above its bound", "gap{fg=9}", api.ErrRange, 7},
	{"a node too many", wideTree(101), api.ErrMany, 4 + 4*99},
	{"a node too deep", deepTree(13), api.ErrDeep, 4 * 12},
	{"too long", `text"` + strings.Repeat("a", 3995) + `"`, api.ErrLong, 0},
	{"too long, and no tree", strings.Repeat("?", 4001), api.ErrLong, 0},
}

// TestSetThatIsRefused: ahead of any other Set, and behind one.
func TestSetThatIsRefused(t *testing.T) {
	for _, c := range wrongTrees {
		t.Run(c.name, func(t *testing.T) {
			refuse := func(s *Session) {
				t.Helper()
				s.Render()
				before := lookOf(s, 3, 2)
				if errno, place := s.Set(c.text); errno != c.errno || place != c.place {
					t.Errorf("Set(%q) = %d, %d, want %d, %d", c.text, errno, place, c.errno, c.place)
				}
				if !lookOf(s, 3, 2).same(before) {
					t.Errorf("Set(%q) was refused and changed something", c.text)
				}
				if got := s.Render(); got != "" {
					t.Errorf("behind Set(%q), which was refused, Render is %q", c.text, got)
				}
			}
			s := made(t, 3, 2)
			refuse(s)
			set(t, s, "row["+scrollOfLines(4, 9)+","+scrollOfLines(5, 3)+"]")
			scroll(t, s, 4, 5)
			scroll(t, s, 5, 1)
			refuse(s)
			set(t, s, scrollOfLines(4, 9))
			wantOffset(t, s, 4, 5, 7)
		})
	}
}

// TestSetKeepsWhatIsScrolled, wherever the scroll stands in the new tree.
func TestSetKeepsWhatIsScrolled(t *testing.T) {
	for _, c := range []struct {
		name, text string
		off, room  int
	}{
		{"the same tree", scrollOfLines(4, 9), 5, 7},
		{"a longer text", scrollOfLines(4, 20), 5, 18},
		{"a text that leaves just this room", scrollOfLines(4, 7), 5, 5},
		{"in a row", "row[gap," + scrollOfLines(4, 9) + "]", 5, 7},
		{"in a box without a border", "box{border=0}[" + scrollOfLines(4, 9) + "]", 5, 7},
		{"in another scroll", "scroll{id=3}[" + scrollOfLines(4, 9) + "]", 0, 0},
		{"beside others", "row[" + scrollOfLines(3, 9) + "," + scrollOfLines(4, 9) + "," + scrollOfLines(5, 9) + "]", 5, 7},
		{"with other attributes", `scroll{bold=1;id=4;fg=2}[text"` + strings.Repeat(`\n`, 9) + `"]`, 5, 8},
	} {
		t.Run(c.name, func(t *testing.T) {
			s := made(t, 3, 2)
			set(t, s, scrollOfLines(4, 9))
			scroll(t, s, 4, 5)
			set(t, s, c.text)
			wantOffset(t, s, 4, c.off, c.room)
			set(t, s, scrollOfLines(4, 9))
			wantOffset(t, s, 4, 5, 7)
		})
	}
}

// TestSetForgets: what a tree has not is not scrolled any more, in a tree behind it that has it again.
func TestSetForgets(t *testing.T) {
	for _, c := range []struct{ name, text string }{
		{"a gap", "gap"},
		{"a scroll of another id", scrollOfLines(5, 9)},
		{"a scroll without an id", `scroll[text"0\n1\n2\n3\n4\n5\n6\n7\n8"]`},
		{"a scroll of the id 0", `scroll{id=0}[text"0\n1\n2\n3\n4\n5\n6\n7\n8"]`},
		{"the id is a gap's", "gap{id=4}"},
		{"the id is a text's", `text{id=4}"0\n1\n2\n3\n4"`},
		{"the id is a box's with a scroll in it", "box{id=4}[" + scrollOfLines(5, 9) + "]"},
		{"the id is a row's", "row{id=4}[" + scrollOfLines(5, 9) + "]"},
		{"the id is a col's", "col{id=4}[]"},
		{"the id is a stack's", "stack{id=4}[]"},
		{"the id is that of the node in a scroll", `scroll{id=5}[text{id=4}"0\n1\n2\n3\n4\n5"]`},
	} {
		t.Run(c.name, func(t *testing.T) {
			s := made(t, 3, 2)
			set(t, s, scrollOfLines(4, 9))
			scroll(t, s, 4, 5)
			set(t, s, c.text)
			wantNoScroll(t, s, 4)
			fresh := made(t, 3, 2)
			set(t, fresh, c.text)
			if !lookOf(s, 3, 2).same(lookOf(fresh, 3, 2)) {
				t.Error("what is not there any more is to be seen")
			}
			set(t, s, scrollOfLines(4, 9))
			wantOffset(t, s, 4, 0, 7)
			wantPicture(t, s, 3, "0..|1..|")
		})
	}
}

// TestSetForgetsSomeAndKeepsOthers: of many scrolls those stay scrolled that each next tree still has.
func TestSetForgetsSomeAndKeepsOthers(t *testing.T) {
	row := func(ids ...int) string {
		var kids []string
		for _, id := range ids {
			kids = append(kids, scrollOfLines(id, 9))
		}
		return "row[" + strings.Join(kids, ",") + "]"
	}
	s := made(t, 9, 2)
	set(t, s, row(1, 2, 3, 4, 5, 6))
	for id := 1; id <= 6; id++ {
		scroll(t, s, id, id)
	}
	set(t, s, row(6, 2, 4))
	wantPicture(t, s, 9, "6..2..4..|7..3..5..|")
	set(t, s, row(5, 4, 3, 2))
	wantOffset(t, s, 5, 0, 7)
	wantOffset(t, s, 4, 4, 7)
	wantOffset(t, s, 3, 0, 7)
	wantOffset(t, s, 2, 2, 7)
	wantNoScroll(t, s, 6)
	set(t, s, row(1, 2, 3, 4, 5, 6))
	for id, want := range []int{0, 2, 0, 4, 0, 0} {
		wantOffset(t, s, id+1, want, 7)
	}
}
