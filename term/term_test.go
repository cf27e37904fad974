package term

import (
	"math"
	"slices"
	"strings"
	"testing"

	"pane/api"
)

func made(t testing.TB, w, h int) *Term {
	t.Helper()
	m, errno := New(w, h)
	if m == nil || errno != api.OK {
		t.Fatalf("New(%d, %d) = %v, %d", w, h, m, errno)
	}
	return m
}

// picture has a row's texts one behind the other, blanks as '.', tails as '>', and '|' behind each row.
func picture(cells []api.Cell, w int) string {
	var b strings.Builder
	for i, c := range cells {
		switch {
		case c.Part == 2 && c.Text == "":
			b.WriteString(">")
		case c.Text == " " && c.Part == 0:
			b.WriteString(".")
		default:
			b.WriteString(c.Text)
		}
		if i%w == w-1 {
			b.WriteString("|")
		}
	}
	return b.String()
}

// colours has the Fg of each cell.
func colours(cells []api.Cell, w int) string {
	var b strings.Builder
	for i, c := range cells {
		b.WriteByte(byte('0' + c.Style.Fg))
		if i%w == w-1 {
			b.WriteString("|")
		}
	}
	return b.String()
}

// look is all that can be asked of a terminal.
type look struct {
	w, h, x, y int
	style      api.Style
	cells      []api.Cell
}

func lookOf(m *Term) look {
	var l look
	l.w, l.h = m.Size()
	l.x, l.y = m.Cursor()
	l.style = m.Style()
	l.cells = m.Cells()
	return l
}

func (l look) same(o look) bool {
	return l.w == o.w && l.h == o.h && l.x == o.x && l.y == o.y && l.style == o.style && slices.Equal(l.cells, o.cells)
}

func newLook(w, h int) look {
	return look{w: w, h: h, cells: slices.Repeat([]api.Cell{{Text: " "}}, w*h)}
}

var sides = []int{math.MinInt, -401, -1, 0, 1, 2, 399, 400, 401, 1<<32 + 1, math.MaxInt}

func isRight(n int) bool { return n >= 1 && n <= 400 }

func TestNew(t *testing.T) {
	for _, w := range sides {
		for _, h := range sides {
			m, errno := New(w, h)
			if !isRight(w) || !isRight(h) {
				if m != nil || errno != api.ErrRange {
					t.Errorf("New(%d, %d) = %v, %d, want nil, ErrRange", w, h, m, errno)
				}
				continue
			}
			if m == nil || errno != api.OK {
				t.Fatalf("New(%d, %d) = %v, %d", w, h, m, errno)
			}
			if !lookOf(m).same(newLook(w, h)) {
				t.Errorf("New(%d, %d) is not as a new one", w, h)
			}
		}
	}
}

func TestNewHasNothingHalfComeAndNoLastCell(t *testing.T) {
	for _, c := range []struct{ name, bytes, want string }{
		{"a mark has nothing to stand behind", "\u0301a", "a..|"},
		{"the rest of a rune stands for itself", "\xB0\xB4", "\uFFFD\uFFFD.|"},
		{"the rest of a sequence is text", "[2J", "[2J|"},
	} {
		m := made(t, 3, 1)
		m.Write(c.bytes)
		if got := picture(m.Cells(), 3); got != c.want {
			t.Errorf("%s: behind %q it shows %q, want %q", c.name, c.bytes, got, c.want)
		}
	}
}

// begun are bytes behind which something waits, or is kept for what comes.
var begun = []struct{ name, ahead, behind string }{
	{"nothing", "", "a\u0301"},
	{"cells and a cursor", "ab\x1b[2;2H", "c"},
	{"a style", "\x1b[1;31;42m", "a"},
	{"a last cell", "a", "\u0301"},
	{"a last cell with all its marks", "a\u0301\u0302\u0303\u0304", "\u0305"},
	{"a wide last cell", "水", "\u0301"},
	{"amid a rune of two", "a\xCC", "\x81"},
	{"amid a rune of three", "\xE6\xB0", "\xB4"},
	{"amid a rune of four", "\xF0\x9F\x98", "\x80"},
	{"behind ESC", "\x1b", "[2J"},
	{"behind the bracket", "ab\x1b[", "2J"},
	{"amid a number", "\x1b[1;3", "1mab"},
	{"amid numbers", "\x1b[2;", "2Hz"},
	{"a style, a last cell and half a rune", "\x1b[31ma\xCC", "\x81b"},
	{"a full row", "abcd", "e\u0301"},
}

func TestResizeThatIsRefused(t *testing.T) {
	for _, c := range begun {
		t.Run(c.name, func(t *testing.T) {
			for _, w := range sides {
				for _, h := range sides {
					if isRight(w) && isRight(h) {
						continue
					}
					m, kept := made(t, 4, 2), made(t, 4, 2)
					m.Write(c.ahead)
					kept.Write(c.ahead)
					if errno := m.Resize(w, h); errno != api.ErrRange {
						t.Fatalf("Resize(%d, %d) = %d, want ErrRange", w, h, errno)
					}
					if !lookOf(m).same(lookOf(kept)) {
						t.Fatalf("Resize(%d, %d) was refused and changed something", w, h)
					}
					m.Write(c.behind)
					kept.Write(c.behind)
					if !lookOf(m).same(lookOf(kept)) {
						t.Fatalf("Resize(%d, %d) was refused and changed what was half come", w, h)
					}
				}
			}
		})
	}
}

func TestResize(t *testing.T) {
	for _, c := range begun {
		t.Run(c.name, func(t *testing.T) {
			for _, size := range [][2]int{{4, 2}, {2, 4}, {1, 1}, {4, 1}, {5, 3}, {400, 1}, {1, 400}} {
				m, fresh := made(t, 4, 2), made(t, size[0], size[1])
				m.Write(c.ahead)
				if errno := m.Resize(size[0], size[1]); errno != api.OK {
					t.Fatalf("Resize(%v) = %d", size, errno)
				}
				if !lookOf(m).same(newLook(size[0], size[1])) {
					t.Fatalf("behind Resize(%v) it is not as a new one", size)
				}
				m.Write(c.behind)
				fresh.Write(c.behind)
				if !lookOf(m).same(lookOf(fresh)) {
					t.Fatalf("behind Resize(%v) and %q it is not as a new one: %q", size, c.behind, picture(m.Cells(), size[0]))
				}
			}
		})
	}
	m := made(t, 1, 1)
	if errno := m.Resize(400, 400); errno != api.OK || !lookOf(m).same(newLook(400, 400)) {
		t.Errorf("Resize(400, 400) = %d", errno)
	}
}

func TestCellsAreNewMemory(t *testing.T) {
	m := made(t, 3, 1)
	m.Write("a水")
	first := m.Cells()
	for i := range first {
		first[i] = api.Cell{Text: "z", Part: 7}
	}
	if got := picture(m.Cells(), 3); got != "a水>|" {
		t.Errorf("it shows %q behind a change of its cells", got)
	}
	kept := m.Cells()
	m.Write("\x1b[Hxyz\x1b[2J")
	if got := picture(kept, 3); got != "a水>|" {
		t.Errorf("cells that were answered became %q", got)
	}
}

func TestTerminalsShareNothing(t *testing.T) {
	m, other := made(t, 3, 2), made(t, 3, 2)
	other.Write("\x1b[31mb\xE6")
	kept := lookOf(other)
	m.Write("\x1b[32ma\u0301\x1b[2;")
	m.Resize(9, 9)
	m.Write("abc\x1b[2J\x1b[")
	if !lookOf(other).same(kept) {
		t.Error("a terminal has changed with another one")
	}
	other.Write("\xB0\xB4")
	if got := picture(other.Cells(), 3); got != "b水>|...|" {
		t.Errorf("it shows %q: what was half come has changed with another terminal", got)
	}
}

func TestAskingChangesNothing(t *testing.T) {
	m, unasked := made(t, 4, 2), made(t, 4, 2)
	bytes := "a\u0301\x1b[31;1mb\x1b[2;1H水\xF0\x9F\x98\x80"
	for i := range len(bytes) {
		m.Write(bytes[i : i+1])
		lookOf(m)
		m.Write("")
	}
	unasked.Write(bytes)
	if !lookOf(m).same(lookOf(unasked)) {
		t.Error("what is asked of a terminal changes what it shows")
	}
}
