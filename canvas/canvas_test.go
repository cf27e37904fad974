package canvas

import (
	"math"
	"slices"
	"strconv"
	"strings"
	"testing"

	"pane/api"
)

const (
	least    = math.MinInt
	greatest = math.MaxInt
)

var (
	plain = api.Style{}
	all   = rect(0, 0, 400, 400) // a clip that has all places of every screen
)

func rect(x, y, w, h int) api.Rect { return api.Rect{X: x, Y: y, W: w, H: h} }

func fg(n int) api.Style { return api.Style{Fg: n} }

func made(t testing.TB, w, h int) *Canvas {
	t.Helper()
	c, errno := New(w, h)
	if errno != api.OK || c == nil {
		t.Fatalf("New(%d, %d) = %v, %d", w, h, c, errno)
	}
	return c
}

// step is a call of a canvas.
type step func(c *Canvas)

func put(x, y int, text string, w, colour int) step {
	return putIn(all, x, y, text, w, colour)
}

func putIn(clip api.Rect, x, y int, text string, w, colour int) step {
	return func(c *Canvas) { c.Put(x, y, api.Cluster{Text: text, W: w}, fg(colour), clip) }
}

func fill(r api.Rect, colour int) step { return fillIn(all, r, colour) }

func fillIn(clip, r api.Rect, colour int) step {
	return func(c *Canvas) { c.Fill(r, fg(colour), clip) }
}

// picture shows of each cell its Text (a blank as _), its Fg, if it has one, and < behind a head, > behind a tail; a / parts the rows.
func picture(c *Canvas) string {
	w, _ := c.Size()
	var rows []string
	for row := range slices.Chunk(c.Cells(), w) {
		var words []string
		for _, cell := range row {
			word := strings.ReplaceAll(cell.Text, " ", "_")
			if cell.Style.Fg != 0 {
				word += strconv.Itoa(cell.Style.Fg)
			}
			words = append(words, word+[]string{"", "<", ">"}[cell.Part])
		}
		rows = append(rows, strings.Join(words, " "))
	}
	return strings.Join(rows, " / ")
}

type picturing struct {
	name  string
	w, h  int
	steps []step
	want  string
}

func checkPictures(t *testing.T, cases []picturing) {
	for _, p := range cases {
		t.Run(p.name, func(t *testing.T) {
			c := made(t, p.w, p.h)
			for _, s := range p.steps {
				s(c)
			}
			if got := picture(c); got != p.want {
				t.Errorf("got  %s\nwant %s", got, p.want)
			}
		})
	}
}

func TestNew(t *testing.T) {
	blankCell := api.Cell{Text: " "}
	sides := []int{least, -400, -1, 0, 1, 2, 7, 399, 400, 401, 1<<32 + 1, greatest}
	for _, w := range sides {
		for _, h := range sides {
			c, errno := New(w, h)
			if w < 1 || w > 400 || h < 1 || h > 400 {
				if c != nil || errno != api.ErrRange {
					t.Errorf("New(%d, %d) = %v, %d, want nil, ErrRange", w, h, c, errno)
				}
				continue
			}
			if c == nil || errno != api.OK {
				t.Fatalf("New(%d, %d) = %v, %d, want a canvas", w, h, c, errno)
			}
			if gotW, gotH := c.Size(); gotW != w || gotH != h {
				t.Errorf("the size of New(%d, %d) is %d, %d", w, h, gotW, gotH)
			}
			cells := c.Cells()
			if len(cells) != w*h {
				t.Fatalf("New(%d, %d) has %d cells", w, h, len(cells))
			}
			for i, cell := range cells {
				if cell != blankCell {
					t.Fatalf("cell %d of New(%d, %d) is %+v", i, w, h, cell)
				}
			}
		}
	}
}

func TestSizeStays(t *testing.T) {
	c := made(t, 5, 3)
	c.Put(4, 2, api.Cluster{Text: "水", W: 2}, fg(1), all)
	c.Fill(rect(-9, -9, 99, 99), fg(2), all)
	if w, h := c.Size(); w != 5 || h != 3 {
		t.Errorf("the size is %d, %d", w, h)
	}
}

func TestPut(t *testing.T) {
	checkPictures(t, []picturing{
		{"one column", 3, 2, []step{put(1, 1, "a", 1, 3)}, "_ _ _ / _ a3 _"},
		{"the first place", 3, 2, []step{put(0, 0, "a", 1, 3)}, "a3 _ _ / _ _ _"},
		{"the last place", 3, 2, []step{put(2, 1, "a", 1, 3)}, "_ _ _ / _ _ a3"},
		{"two columns", 3, 2, []step{put(1, 1, "水", 2, 3)}, "_ _ _ / _ 水3< 3>"},
		{"a screen of one place", 1, 1, []step{put(0, 0, "a", 1, 3)}, "a3"},
		{"the last one holds", 2, 1, []step{put(0, 0, "a", 1, 3), put(0, 0, "b", 1, 4)}, "b4 _"},
		{"a blank that is put", 2, 1, []step{put(0, 0, "a", 1, 3), put(0, 0, " ", 1, 0)}, "_ _"},

		{"a W of 0", 3, 1, []step{put(1, 0, "a", 0, 3)}, "_ _ _"},
		{"a W of 3", 3, 1, []step{put(0, 0, "a", 3, 3)}, "_ _ _"},
		{"a W below 0", 3, 1, []step{put(1, 0, "a", -1, 3)}, "_ _ _"},
		{"a W above all bounds", 3, 1, []step{put(1, 0, "a", greatest, 3)}, "_ _ _"},
		{"a W below all bounds", 3, 1, []step{put(1, 0, "a", least, 3)}, "_ _ _"},
		{"a W of 0 over a half", 3, 1, []step{put(0, 0, "水", 2, 2), put(1, 0, "a", 0, 3)}, "水2< 2> _"},
		{"a W of 3 over a half", 3, 1, []step{put(1, 0, "水", 2, 2), put(0, 0, "a", 3, 3)}, "_ 水2< 2>"},

		{"left of the screen", 3, 2, []step{put(-1, 1, "a", 1, 3)}, "_ _ _ / _ _ _"},
		{"right of the screen", 3, 2, []step{put(3, 0, "a", 1, 3)}, "_ _ _ / _ _ _"},
		{"above the screen", 3, 2, []step{put(1, -1, "a", 1, 3)}, "_ _ _ / _ _ _"},
		{"below the screen", 3, 2, []step{put(1, 2, "a", 1, 3)}, "_ _ _ / _ _ _"},
		{"wide, at the last column but one", 3, 2, []step{put(1, 0, "水", 2, 3)}, "_ 水3< 3> / _ _ _"},
		{"wide, at the last column", 3, 2, []step{put(2, 0, "水", 2, 3)}, "_ _ _3 / _ _ _"},
		{"wide, at the last place", 3, 2, []step{put(2, 1, "水", 2, 3)}, "_ _ _ / _ _ _3"},
		{"wide, right of the screen", 3, 2, []step{put(3, 0, "水", 2, 3)}, "_ _ _ / _ _ _"},
		{"wide, at column -1", 3, 2, []step{put(-1, 1, "水", 2, 3)}, "_ _ _ / _3 _ _"},
		{"wide, at column -2", 3, 2, []step{put(-2, 1, "水", 2, 3)}, "_ _ _ / _ _ _"},
		{"wide, above the screen", 3, 2, []step{put(0, -1, "水", 2, 3)}, "_ _ _ / _ _ _"},
		{"wide, below the screen", 3, 2, []step{put(0, 2, "水", 2, 3)}, "_ _ _ / _ _ _"},
		{"wide, on a screen of one place", 1, 1, []step{put(0, 0, "水", 2, 3)}, "_3"},
		{"wide, ahead of a screen of one place", 1, 1, []step{put(-1, 0, "水", 2, 3)}, "_3"},

		{"a place beyond all bounds", 3, 1, []step{put(greatest, 0, "a", 1, 3), put(least, 0, "a", 1, 3), put(0, greatest, "a", 1, 3), put(0, least, "a", 1, 3)}, "_ _ _"},
		{"wide, at a place beyond all bounds", 3, 1, []step{put(greatest, 0, "水", 2, 3), put(least, 0, "水", 2, 3), put(0, greatest, "水", 2, 3), put(0, least, "水", 2, 3), put(greatest-1, greatest-1, "水", 2, 3)}, "_ _ _"},
		{"places that fewer bits would take for others", 3, 1, []step{put(1<<32, 0, "a", 1, 3), put(0, 1<<32, "a", 1, 3), put(-1<<32, 0, "水", 2, 3)}, "_ _ _"},
	})
}

func TestPutWithin(t *testing.T) {
	checkPictures(t, []picturing{
		{"within the clip", 4, 1, []step{putIn(rect(1, 0, 2, 1), 1, 0, "a", 1, 3)}, "_ a3 _ _"},
		{"left of the clip", 4, 1, []step{putIn(rect(1, 0, 2, 1), 0, 0, "a", 1, 3)}, "_ _ _ _"},
		{"right of the clip", 4, 1, []step{putIn(rect(1, 0, 2, 1), 3, 0, "a", 1, 3)}, "_ _ _ _"},
		{"above the clip", 2, 3, []step{putIn(rect(0, 1, 2, 1), 0, 0, "a", 1, 3)}, "_ _ / _ _ / _ _"},
		{"below the clip", 2, 3, []step{putIn(rect(0, 1, 2, 1), 0, 2, "a", 1, 3)}, "_ _ / _ _ / _ _"},
		{"a clip of one place", 2, 1, []step{putIn(rect(1, 0, 1, 1), 1, 0, "a", 1, 3)}, "_ a3"},
		{"a clip beyond the screen at all sides", 2, 1, []step{putIn(rect(-5, -5, 20, 20), 1, 0, "a", 1, 3)}, "_ a3"},
		{"a clip beside the screen", 2, 1, []step{putIn(rect(2, 0, 5, 5), 2, 0, "a", 1, 3), putIn(rect(-5, 0, 5, 5), -1, 0, "a", 1, 3)}, "_ _"},

		{"wide, within the clip", 4, 1, []step{putIn(rect(1, 0, 2, 1), 1, 0, "水", 2, 3)}, "_ 水3< 3> _"},
		{"wide, its left half within the clip", 4, 1, []step{putIn(rect(1, 0, 2, 1), 2, 0, "水", 2, 3)}, "_ _ _3 _"},
		{"wide, its right half within the clip", 4, 1, []step{putIn(rect(1, 0, 2, 1), 0, 0, "水", 2, 3)}, "_ _3 _ _"},
		{"wide, left of the clip", 4, 1, []step{putIn(rect(2, 0, 2, 1), 0, 0, "水", 2, 3)}, "_ _ _ _"},
		{"wide, right of the clip", 4, 1, []step{putIn(rect(0, 0, 2, 1), 2, 0, "水", 2, 3)}, "_ _ _ _"},
		{"wide, above and below the clip", 2, 3, []step{putIn(rect(0, 1, 2, 1), 0, 0, "水", 2, 3), putIn(rect(0, 1, 2, 1), 0, 2, "水", 2, 3)}, "_ _ / _ _ / _ _"},
		{"wide, half within the clip, half beside the screen", 4, 1, []step{putIn(rect(3, 0, 9, 1), 3, 0, "水", 2, 3)}, "_ _ _ _3"},
		{"wide, the clip has only the half beside the screen", 4, 1, []step{putIn(rect(4, 0, 9, 1), 3, 0, "水", 2, 3)}, "_ _ _ _"},

		{"a clip without columns", 2, 1, []step{putIn(rect(0, 0, 0, 1), 0, 0, "a", 1, 3)}, "_ _"},
		{"a clip without rows", 2, 1, []step{putIn(rect(0, 0, 1, 0), 0, 0, "a", 1, 3)}, "_ _"},
		{"an empty clip", 2, 1, []step{putIn(rect(0, 0, 0, 0), 0, 0, "水", 2, 3)}, "_ _"},
		{"a clip of a width below 0", 2, 1, []step{putIn(rect(1, 0, -1, 1), 0, 0, "a", 1, 3), putIn(rect(1, 0, least, 1), 0, 0, "a", 1, 3)}, "_ _"},
		{"a clip of a height below 0", 2, 1, []step{putIn(rect(0, 1, 1, -1), 0, 0, "a", 1, 3), putIn(rect(0, 1, 1, least), 0, 0, "a", 1, 3)}, "_ _"},
		{"a clip as wide and high as can be", 2, 1, []step{putIn(rect(-1, -1, greatest, greatest), 1, 0, "a", 1, 3)}, "_ a3"},
		{"a clip from below all bounds ends at 0", 2, 1, []step{putIn(rect(least, least, greatest, greatest), 0, 0, "a", 1, 3)}, "_ _"},
		{"a clip whose X is clamped alone", 2, 1, []step{putIn(rect(-100001, 0, 100002, 1), 0, 0, "a", 1, 3)}, "_ _"},
		{"a clip that is not clamped", 2, 1, []step{putIn(rect(-99999, -99999, 100000, 100000), 0, 0, "a", 1, 3)}, "a3 _"},
		{"a clip whose Y is clamped alone", 1, 1, []step{putIn(rect(0, -100001, 1, 100002), 0, 0, "a", 1, 3)}, "_"},
		{"a clip above all bounds", 2, 1, []step{putIn(rect(greatest, greatest, greatest, greatest), 0, 0, "a", 1, 3)}, "_ _"},
		{"place and clip beyond all bounds", 2, 1, []step{putIn(rect(greatest, 0, greatest, 1), greatest, 0, "水", 2, 3), putIn(rect(least, 0, greatest, 1), least, 0, "水", 2, 3)}, "_ _"},
	})
}

func TestPutOverWide(t *testing.T) {
	checkPictures(t, []picturing{
		{"over a head alone", 4, 1, []step{put(1, 0, "水", 2, 2), put(1, 0, "a", 1, 3)}, "_ a3 _2 _"},
		{"over a tail alone", 4, 1, []step{put(1, 0, "水", 2, 2), put(2, 0, "a", 1, 3)}, "_ _2 a3 _"},
		{"over both", 4, 1, []step{put(1, 0, "水", 2, 2), put(1, 0, "火", 2, 3)}, "_ 火3< 3> _"},
		{"over both, one behind the other", 4, 1, []step{put(1, 0, "水", 2, 2), put(1, 0, "a", 1, 3), put(2, 0, "b", 1, 4)}, "_ a3 b4 _"},
		{"over both, from the right on", 4, 1, []step{put(1, 0, "水", 2, 2), put(2, 0, "b", 1, 4), put(1, 0, "a", 1, 3)}, "_ a3 b4 _"},
		{"over the tail of one and the head of the next", 4, 1, []step{put(0, 0, "水", 2, 2), put(2, 0, "火", 2, 4), put(1, 0, "木", 2, 3)}, "_2 木3< 3> _4"},
		{"wide, over a head alone", 4, 1, []step{put(1, 0, "水", 2, 2), put(0, 0, "火", 2, 3)}, "火3< 3> _2 _"},
		{"wide, over a tail alone", 4, 1, []step{put(1, 0, "水", 2, 2), put(2, 0, "火", 2, 3)}, "_ _2 火3< 3>"},
		{"beside a wide one", 4, 1, []step{put(1, 0, "水", 2, 2), put(0, 0, "a", 1, 3), put(3, 0, "b", 1, 4)}, "a3 水2< 2> b4"},
		{"above and below a wide one", 2, 3, []step{put(0, 1, "水", 2, 2), put(0, 0, "a", 1, 3), put(1, 2, "b", 1, 4)}, "a3 _ / 水2< 2> / _ b4"},

		{"half a wide one, over a head alone", 4, 1, []step{put(1, 0, "水", 2, 2), putIn(rect(0, 0, 2, 1), 1, 0, "火", 2, 3)}, "_ _3 _2 _"},
		{"half a wide one, over a tail alone", 4, 1, []step{put(1, 0, "水", 2, 2), putIn(rect(2, 0, 2, 1), 1, 0, "火", 2, 3)}, "_ _2 _3 _"},
		{"its left half over a tail", 4, 1, []step{put(0, 0, "水", 2, 2), putIn(rect(0, 0, 2, 1), 1, 0, "火", 2, 3)}, "_2 _3 _ _"},
		{"its right half over a head", 4, 1, []step{put(2, 0, "水", 2, 2), putIn(rect(2, 0, 2, 1), 1, 0, "火", 2, 3)}, "_ _ _3 _2"},
		{"at the last column, over a tail", 4, 1, []step{put(2, 0, "水", 2, 2), put(3, 0, "火", 2, 3)}, "_ _ _2 _3"},
		{"at column -1, over a head", 4, 1, []step{put(0, 0, "水", 2, 2), put(-1, 0, "火", 2, 3)}, "_3 _2 _ _"},
		{"a wide one that is not seen", 4, 1, []step{put(1, 0, "水", 2, 2), putIn(rect(3, 0, 1, 1), 1, 0, "火", 2, 3)}, "_ 水2< 2> _"},

		{"the other half is outside the clip", 4, 1, []step{put(1, 0, "水", 2, 2), putIn(rect(2, 0, 1, 1), 2, 0, "a", 1, 3)}, "_ _2 a3 _"},
		{"the other tail is outside the clip", 4, 1, []step{put(1, 0, "水", 2, 2), putIn(rect(1, 0, 1, 1), 1, 0, "a", 1, 3)}, "_ a3 _2 _"},
		{"what was no half stays, be it without Text", 3, 1, []step{put(0, 0, "a", 1, 2), put(1, 0, "", 1, 2), put(2, 0, "b", 1, 2), put(1, 0, "c", 1, 3)}, "a2 c3 b2"},
		{"a wide one without Text is one", 3, 1, []step{put(0, 0, "", 2, 2), put(1, 0, "a", 1, 3)}, "_2 a3 _"},
		{"what was a half is none any more", 4, 1, []step{put(0, 0, "水", 2, 2), put(1, 0, "a", 1, 3), put(0, 0, "b", 1, 4)}, "b4 a3 _ _"},
		{"what was a tail is none any more", 4, 1, []step{put(0, 0, "水", 2, 2), put(0, 0, "a", 1, 3), put(1, 0, "b", 1, 4)}, "a3 b4 _ _"},
	})
}

// TestPutOverWideKeepsStyle: the half that becomes a blank keeps all of its style.
func TestPutOverWideKeepsStyle(t *testing.T) {
	was := api.Style{Fg: 3, Bg: 7, Bold: 1}
	put := api.Style{Fg: 1, Bg: 2}
	for x := range 2 {
		c := made(t, 2, 1)
		c.Put(0, 0, api.Cluster{Text: "水", W: 2}, was, all)
		c.Put(x, 0, api.Cluster{Text: "a", W: 1}, put, all)
		want := make([]api.Cell, 2)
		want[x] = api.Cell{Text: "a", Style: put}
		want[1-x] = api.Cell{Text: " ", Style: was}
		if got := c.Cells(); !slices.Equal(got, want) {
			t.Errorf("put at %d: %+v, want %+v", x, got, want)
		}
	}
}

func TestPutTextAsHandedIn(t *testing.T) {
	for _, text := range []string{"", " ", "e\u0301", "ab", "水", "\n", "\x00", "\x1b[2J", "\xff\xfe", strings.Repeat("x", 100000)} {
		c := made(t, 3, 1)
		c.Put(0, 0, api.Cluster{Text: text, W: 1}, plain, all)
		c.Put(1, 0, api.Cluster{Text: text, W: 2}, plain, all)
		want := []api.Cell{{Text: text}, {Text: text, Part: 1}, {Part: 2}}
		if got := c.Cells(); !slices.Equal(got, want) {
			t.Errorf("of %.20q: %.200q", text, picture(c))
		}
	}
}

// TestStyleAsItCounts: of Put of one column, of two, of half of two, and of Fill.
func TestStyleAsItCounts(t *testing.T) {
	for _, s := range []struct{ handed, want api.Style }{
		{api.Style{}, api.Style{}},
		{api.Style{Fg: 1, Bg: 8, Bold: 1}, api.Style{Fg: 1, Bg: 8, Bold: 1}},
		{api.Style{Fg: 8, Bg: 1, Bold: 0}, api.Style{Fg: 8, Bg: 1}},
		{api.Style{Fg: 9, Bg: 4, Bold: 1}, api.Style{Bg: 4, Bold: 1}},
		{api.Style{Fg: 4, Bg: 9, Bold: 1}, api.Style{Fg: 4, Bold: 1}},
		{api.Style{Fg: 4, Bg: 5, Bold: 2}, api.Style{Fg: 4, Bg: 5}},
		{api.Style{Fg: -1, Bg: -1, Bold: -1}, api.Style{}},
		{api.Style{Fg: greatest, Bg: least, Bold: greatest}, api.Style{}},
		{api.Style{Fg: least, Bg: greatest, Bold: least}, api.Style{}},
	} {
		c := made(t, 5, 1)
		c.Put(0, 0, api.Cluster{Text: "a", W: 1}, s.handed, all)
		c.Put(1, 0, api.Cluster{Text: "水", W: 2}, s.handed, all)
		c.Put(3, 0, api.Cluster{Text: "水", W: 2}, s.handed, rect(3, 0, 1, 1))
		c.Fill(rect(4, 0, 1, 1), s.handed, all)
		for i, cell := range c.Cells() {
			if cell.Style != s.want {
				t.Errorf("cell %d of %+v has %+v, want %+v", i, s.handed, cell.Style, s.want)
			}
		}
	}
}

func TestFill(t *testing.T) {
	checkPictures(t, []picturing{
		{"a rectangle", 4, 3, []step{fill(rect(1, 0, 2, 2), 3)}, "_ _3 _3 _ / _ _3 _3 _ / _ _ _ _"},
		{"one place", 3, 2, []step{fill(rect(1, 1, 1, 1), 3)}, "_ _ _ / _ _3 _"},
		{"all places", 2, 2, []step{fill(rect(0, 0, 2, 2), 3)}, "_3 _3 / _3 _3"},
		{"over what was there", 3, 1, []step{put(0, 0, "a", 1, 2), put(1, 0, "b", 1, 2), fill(rect(1, 0, 2, 1), 3)}, "a2 _3 _3"},
		{"beyond the screen at all sides", 2, 2, []step{fill(rect(-5, -5, 20, 20), 3)}, "_3 _3 / _3 _3"},
		{"beyond the left and the top", 3, 2, []step{fill(rect(-2, -1, 3, 2), 3)}, "_3 _ _ / _ _ _"},
		{"beyond the right and the bottom", 3, 2, []step{fill(rect(2, 1, 3, 2), 3)}, "_ _ _ / _ _ _3"},
		{"beside the screen", 2, 2, []step{fill(rect(2, 0, 5, 2), 3), fill(rect(0, 2, 2, 5), 3), fill(rect(-5, 0, 5, 2), 3), fill(rect(0, -5, 2, 5), 3)}, "_ _ / _ _"},
		{"beyond the clip", 4, 3, []step{fillIn(rect(1, 1, 2, 1), rect(0, 0, 4, 3), 3)}, "_ _ _ _ / _ _3 _3 _ / _ _ _ _"},
		{"over a corner of the clip", 3, 2, []step{fillIn(rect(1, 1, 9, 9), rect(0, 0, 2, 2), 3)}, "_ _ _ / _ _3 _"},
		{"beside the clip", 3, 2, []step{fillIn(rect(2, 0, 1, 2), rect(0, 0, 2, 2), 3)}, "_ _ _ / _ _ _"},
		{"rectangle and clip meet beside the screen", 3, 2, []step{fillIn(rect(3, 0, 9, 2), rect(1, 0, 9, 2), 3)}, "_ _ _ / _ _ _"},

		{"without columns", 2, 2, []step{fill(rect(0, 0, 0, 2), 3)}, "_ _ / _ _"},
		{"without rows", 2, 2, []step{fill(rect(0, 0, 2, 0), 3)}, "_ _ / _ _"},
		{"without a place", 2, 2, []step{fill(rect(0, 0, 0, 0), 3)}, "_ _ / _ _"},
		{"sides below 0", 2, 2, []step{fill(rect(1, 1, -1, 2), 3), fill(rect(1, 1, 2, -1), 3), fill(rect(2, 2, least, least), 3)}, "_ _ / _ _"},
		{"an empty clip", 2, 2, []step{fillIn(rect(0, 0, 0, 0), rect(0, 0, 2, 2), 3), fillIn(rect(0, 0, 0, 2), rect(0, 0, 2, 2), 3), fillIn(rect(0, 0, 2, 0), rect(0, 0, 2, 2), 3)}, "_ _ / _ _"},
		{"a clip of sides below 0", 2, 2, []step{fillIn(rect(2, 2, -2, -2), rect(0, 0, 2, 2), 3)}, "_ _ / _ _"},

		{"beyond all bounds", 2, 2, []step{fillIn(rect(-1, -1, greatest, greatest), rect(-2, -2, greatest, greatest), 3)}, "_3 _3 / _3 _3"},
		{"from below all bounds, it ends at 0", 2, 2, []step{fill(rect(least, least, greatest, greatest), 3)}, "_ _ / _ _"},
		{"a clip from below all bounds", 2, 2, []step{fillIn(rect(least, least, greatest, greatest), rect(0, 0, 2, 2), 3)}, "_ _ / _ _"},
		{"from above all bounds", 2, 2, []step{fill(rect(greatest, greatest, greatest, greatest), 3)}, "_ _ / _ _"},
		{"X is clamped alone", 2, 2, []step{fill(rect(-100001, 0, 100002, 2), 3)}, "_ _ / _ _"},
		{"Y is clamped alone", 2, 2, []step{fill(rect(0, -100001, 2, 100002), 3)}, "_ _ / _ _"},
		{"it is not clamped", 2, 2, []step{fill(rect(-99999, -99999, 100000, 100000), 3)}, "_3 _ / _ _"},

		{"it begins within a wide cell", 4, 1, []step{put(0, 0, "水", 2, 2), fill(rect(1, 0, 2, 1), 3)}, "_2 _3 _3 _"},
		{"it ends within a wide cell", 4, 1, []step{put(2, 0, "水", 2, 2), fill(rect(1, 0, 2, 1), 3)}, "_ _3 _3 _2"},
		{"it begins and ends within wide cells", 4, 1, []step{put(0, 0, "水", 2, 2), put(2, 0, "火", 2, 4), fill(rect(1, 0, 2, 1), 3)}, "_2 _3 _3 _4"},
		{"it has a wide cell", 4, 1, []step{put(1, 0, "水", 2, 2), fill(rect(0, 0, 4, 1), 3)}, "_3 _3 _3 _3"},
		{"it is a wide cell", 4, 1, []step{put(1, 0, "水", 2, 2), fill(rect(1, 0, 2, 1), 3)}, "_ _3 _3 _"},
		{"it is a head", 3, 1, []step{put(0, 0, "水", 2, 2), fill(rect(0, 0, 1, 1), 3)}, "_3 _2 _"},
		{"it is a tail", 3, 1, []step{put(1, 0, "水", 2, 2), fill(rect(2, 0, 1, 1), 3)}, "_ _2 _3"},
		{"it is beside wide cells", 6, 1, []step{put(0, 0, "水", 2, 2), put(4, 0, "火", 2, 4), fill(rect(2, 0, 2, 1), 3)}, "水2< 2> _3 _3 火4< 4>"},
		{"the clip begins within a wide cell", 4, 1, []step{put(0, 0, "水", 2, 2), fillIn(rect(1, 0, 9, 1), rect(0, 0, 3, 1), 3)}, "_2 _3 _3 _"},
		{"the clip ends within a wide cell", 4, 1, []step{put(2, 0, "水", 2, 2), fillIn(rect(0, 0, 3, 1), rect(1, 0, 3, 1), 3)}, "_ _3 _3 _2"},
		{"other rows keep their wide cells", 3, 3, []step{put(0, 0, "水", 2, 2), put(1, 1, "水", 2, 2), put(0, 2, "水", 2, 2), fill(rect(1, 1, 1, 1), 3)}, "水2< 2> _ / _ _3 _2 / 水2< 2> _"},
		{"wide cells of several rows", 3, 3, []step{put(0, 0, "水", 2, 2), put(1, 1, "水", 2, 2), put(0, 2, "水", 2, 2), fill(rect(1, 0, 1, 3), 3)}, "_2 _3 _ / _ _3 _2 / _2 _3 _"},
	})
}

func TestCells(t *testing.T) {
	c := made(t, 3, 2)
	for i, text := range []string{"a", "b", "c", "d", "e", "f"} {
		c.Put(i%3, i/3, api.Cluster{Text: text, W: 1}, fg(i+1), all)
	}
	for i, cell := range c.Cells() {
		want := api.Cell{Text: string(rune('a' + i)), Style: fg(i + 1)}
		if cell != want {
			t.Errorf("cell %d is %+v, want %+v", i, cell, want)
		}
	}
}

func TestCellsAreNewMemory(t *testing.T) {
	c := made(t, 3, 2)
	c.Put(0, 0, api.Cluster{Text: "水", W: 2}, fg(2), all)
	want := c.Cells()

	spoilt := c.Cells()
	for i := range spoilt {
		spoilt[i] = api.Cell{Text: "x", Style: fg(9), Part: 2}
	}
	_ = append(spoilt[:1], spoilt...)
	if got := c.Cells(); !slices.Equal(got, want) {
		t.Errorf("writing into its list changed the canvas to %+v", got)
	}

	kept := c.Cells()
	c.Fill(rect(0, 0, 3, 2), fg(5), all)
	if !slices.Equal(kept, want) {
		t.Errorf("Fill changed a list answered ahead of it to %+v", kept)
	}
}

func TestCanvasesShareNothing(t *testing.T) {
	a, b := made(t, 4, 2), made(t, 4, 2)
	blankCells := a.Cells()
	a.Put(1, 1, api.Cluster{Text: "水", W: 2}, fg(2), all)
	a.Fill(rect(0, 0, 2, 1), fg(3), all)
	if got := b.Cells(); !slices.Equal(got, blankCells) {
		t.Errorf("painting one canvas changed another one to %+v", got)
	}
	b.Put(2, 1, api.Cluster{Text: "b", W: 1}, fg(4), all)
	if got, want := picture(a), "_3 _3 _ _ / _ 水2< 2> _"; got != want {
		t.Errorf("got  %s\nwant %s", got, want)
	}
	if got, want := picture(b), "_ _ _ _ / _ _ b4 _"; got != want {
		t.Errorf("got  %s\nwant %s", got, want)
	}
	if got := made(t, 4, 2).Cells(); !slices.Equal(got, blankCells) {
		t.Errorf("a canvas made behind others is %+v", got)
	}
}
