package pane

import (
	"math"
	"slices"
	"strings"
	"testing"

	"pane/api"
	"pane/box"
	"pane/paint"
)

func TestAheadOfAnySet(t *testing.T) {
	s := made(t, 3, 2)
	wantPicture(t, s, 3, "...|...|")
	for _, id := range []int{math.MinInt, -1, 0, 1, 2, 999999, 1000000, math.MaxInt} {
		wantNoScroll(t, s, id)
		if errno := s.Scroll(id, 1); errno != api.ErrNone {
			t.Errorf("Scroll(%d, 1) = %d, want ErrNone", id, errno)
		}
	}
	if node, errno := s.Hit(2, 1); node != 0 || errno != api.OK {
		t.Errorf("Hit(2, 1) = %d, %d", node, errno)
	}
	set(t, s, scrollOfLines(1, 5))
	wantOffset(t, s, 1, 0, 3)
}

// TestIdsThatAreNoScrolls: the tree has a scroll of 4, a scroll without an id, and each other kind with an id.
func TestIdsThatAreNoScrolls(t *testing.T) {
	s := made(t, 12, 2)
	set(t, s, `row{id=1}[`+scrollOfLines(4, 9)+`,scroll[text{id=5}"a\nb\nc"],col{id=2}[gap{id=6}],stack{id=3}[],box{id=7;border=0}[gap]]`)
	scroll(t, s, 4, 3)
	s.Render()
	before := lookOf(s, 12, 2)
	for _, id := range []int{math.MinInt, -999999, -4, -1, 0, 1, 2, 3, 5, 6, 7, 8, 44, 999999, 1000000, 1<<32 + 4, math.MaxInt} {
		wantNoScroll(t, s, id)
		for _, by := range []int{math.MinInt, -1, 0, 1, 2, math.MaxInt} {
			if errno := s.Scroll(id, by); errno != api.ErrNone {
				t.Errorf("Scroll(%d, %d) = %d, want ErrNone", id, by, errno)
			}
			if !lookOf(s, 12, 2).same(before) {
				t.Fatalf("Scroll(%d, %d) was refused and changed something", id, by)
			}
		}
		if got := s.Render(); got != "" {
			t.Errorf("behind Scrolls of %d, which were refused, Render is %q", id, got)
		}
	}
}

// TestScrollOfAnIdThatComesLater: a Scroll that was refused leaves nothing for a tree behind it.
func TestScrollOfAnIdThatComesLater(t *testing.T) {
	s := made(t, 3, 2)
	set(t, s, "row[gap{id=4}]")
	for _, id := range []int{4, 5} {
		if errno := s.Scroll(id, 2); errno != api.ErrNone {
			t.Errorf("Scroll(%d, 2) = %d, want ErrNone", id, errno)
		}
	}
	set(t, s, "row["+scrollOfLines(4, 9)+","+scrollOfLines(5, 9)+"]")
	wantOffset(t, s, 4, 0, 7)
	wantOffset(t, s, 5, 0, 7)
}

// TestScroll: each step from where the one ahead of it left the scroll, in 9 lines on 2 rows.
func TestScroll(t *testing.T) {
	s := made(t, 2, 2)
	set(t, s, scrollOfLines(4, 9))
	for _, c := range []struct {
		name    string
		by, off int
		want    string
	}{
		{"by 0 at the top", 0, 0, "0.|1.|"},
		{"up at the top", -1, 0, "0.|1.|"},
		{"down", 1, 1, "1.|2.|"},
		{"down further", 3, 4, "4.|5.|"},
		{"by 0", 0, 4, "4.|5.|"},
		{"up, by less than what is ahead", -3, 1, "1.|2.|"},
		{"up, by just what is ahead", -1, 0, "0.|1.|"},
		{"down again", 2, 2, "2.|3.|"},
		{"up, by more than what is ahead", -3, 0, "0.|1.|"},
		{"down to one less than the end", 6, 6, "6.|7.|"},
		{"down to the end", 1, 7, "7.|8.|"},
		{"by 0 at the end", 0, 7, "7.|8.|"},
		{"down at the end", 1, 7, "7.|8.|"},
		{"up by one from the end", -1, 6, "6.|7.|"},
		{"down by more than is left", 2, 7, "7.|8.|"},
		{"up by all", -7, 0, "0.|1.|"},
		{"by one more than the Room", 8, 7, "7.|8.|"},
		{"by the least int from the end", math.MinInt, 0, "0.|1.|"},
		{"by the least int from the top", math.MinInt, 0, "0.|1.|"},
		{"by the greatest int from the top", math.MaxInt, 7, "7.|8.|"},
		{"by the greatest int from the end", math.MaxInt, 7, "7.|8.|"},
		{"up a bit", -3, 4, "4.|5.|"},
		{"by the greatest int from the middle", math.MaxInt, 7, "7.|8.|"},
		{"up a bit again", -4, 3, "3.|4.|"},
		{"by one more than the least int", math.MinInt + 1, 0, "0.|1.|"},
		{"by one less than the greatest int", math.MaxInt - 1, 7, "7.|8.|"},
		{"by less than the least number of 32 bits", -1 << 33, 0, "0.|1.|"},
		{"by more than the greatest number of 32 bits", 1 << 33, 7, "7.|8.|"},
	} {
		scroll(t, s, 4, c.by)
		if off, room, errno := s.Offset(4); off != c.off || room != 7 || errno != api.OK {
			t.Fatalf("%s: Offset = %d, %d, %d, want %d, 7, 0", c.name, off, room, errno, c.off)
		}
		if got := picture(s.Screen(), 2); got != c.want {
			t.Fatalf("%s: the screen is %s, want %s", c.name, got, c.want)
		}
	}
}

func TestScrollWithoutRoom(t *testing.T) {
	for _, text := range []string{scrollOfLines(4, 0), scrollOfLines(4, 1), scrollOfLines(4, 2), "scroll{id=4}[gap]", "row[scroll{id=4;max=0}[gap],gap]"} {
		s := made(t, 2, 2)
		set(t, s, text)
		for _, by := range []int{0, 1, -1, math.MaxInt, math.MinInt} {
			scroll(t, s, 4, by)
			wantOffset(t, s, 4, 0, 0)
		}
		// Nothing is kept of these steps.
		set(t, s, scrollOfLines(4, 9))
		wantOffset(t, s, 4, 0, 7)
	}
}

// TestScrollsSideBySide: each has its own offset and its own room.
func TestScrollsSideBySide(t *testing.T) {
	s := made(t, 4, 2)
	set(t, s, "row["+scrollOfLines(999999, 9)+","+scrollOfLines(1, 4)+"]")
	scroll(t, s, 999999, 5)
	wantOffset(t, s, 999999, 5, 7)
	wantOffset(t, s, 1, 0, 2)
	scroll(t, s, 1, 5)
	wantOffset(t, s, 999999, 5, 7)
	wantOffset(t, s, 1, 2, 2)
	wantPicture(t, s, 4, "5.2.|6.3.|")
	scroll(t, s, 999999, -1)
	wantPicture(t, s, 4, "4.2.|5.3.|")
}

// TestScrollsWithinScrolls: the inner one shows 3 of its 8 lines, the outer one 4 of 13 rows (what its col needs, with all lines of the inner one).
func TestScrollsWithinScrolls(t *testing.T) {
	inner := `box{weight=0;border=0;min=3;max=3}[` + scrollOfLines(2, 8) + `]`
	text := `scroll{id=1}[col[text{weight=0}"a\nb",` + inner + `,text{weight=0}"c\nd\ne"]]`
	s := made(t, 1, 4)
	set(t, s, text)
	wantPicture(t, s, 1, "a|b|0|1|")
	wantOffset(t, s, 1, 0, 9)
	wantOffset(t, s, 2, 0, 5)
	scroll(t, s, 1, 2)
	wantPicture(t, s, 1, "0|1|2|c|")
	scroll(t, s, 2, 3)
	wantPicture(t, s, 1, "3|4|5|c|")
	wantOffset(t, s, 1, 2, 9)
	wantOffset(t, s, 2, 3, 5)
	scroll(t, s, 2, 9)
	wantPicture(t, s, 1, "5|6|7|c|")
	scroll(t, s, 1, -1)
	wantPicture(t, s, 1, "b|5|6|7|")
	wantOffset(t, s, 2, 5, 5)
	// One without an id around it is not scrolled.
	set(t, s, strings.Replace(text, "{id=1}", "", 1))
	wantPicture(t, s, 1, "a|b|5|6|")
	wantNoScroll(t, s, 1)
}

// TestScrollThatIsNotSeen: a scroll out of sight is scrolled as others are.
func TestScrollThatIsNotSeen(t *testing.T) {
	s := made(t, 1, 2)
	set(t, s, `scroll[col[text{weight=0}"a\nb\nc",box{border=0;weight=0;max=2}[`+scrollOfLines(2, 8)+`]]]`)
	scroll(t, s, 2, 3)
	wantOffset(t, s, 2, 3, 6)
	wantPicture(t, s, 1, "a|b|")
}

// TestARoomThatBecomesSmaller: what is shown is bounded by the Room; what is scrolled comes back with it, if nobody scrolled in between.
func TestARoomThatBecomesSmaller(t *testing.T) {
	for _, c := range []struct {
		name         string
		smaller, way func(t *testing.T, s *Session)
	}{
		{"by a Resize",
			func(t *testing.T, s *Session) { resize(t, s, 2, 7) },
			func(t *testing.T, s *Session) { resize(t, s, 2, 2) }},
		{"by a Set",
			func(t *testing.T, s *Session) { set(t, s, scrollOfLines(4, 4)) },
			func(t *testing.T, s *Session) { set(t, s, scrollOfLines(4, 9)) }},
	} {
		t.Run(c.name, func(t *testing.T) {
			begin := func() *Session {
				s := made(t, 2, 2)
				set(t, s, scrollOfLines(4, 9))
				scroll(t, s, 4, 6)
				c.smaller(t, s)
				wantOffset(t, s, 4, 2, 2)
				return s
			}
			s := begin()
			c.way(t, s)
			wantOffset(t, s, 4, 6, 7)

			for _, step := range []struct{ by, there, back int }{
				{0, 2, 2}, {1, 2, 2}, {math.MaxInt, 2, 2}, {-1, 1, 1}, {-2, 0, 0}, {-5, 0, 0}, {math.MinInt, 0, 0},
			} {
				s := begin()
				scroll(t, s, 4, step.by)
				wantOffset(t, s, 4, step.there, 2)
				c.way(t, s)
				wantOffset(t, s, 4, step.back, 7)
			}

			// A call that asks, and one that is refused, leave it as it is.
			s = begin()
			s.Screen()
			s.Render()
			s.Hit(0, 0)
			s.Scroll(5, 1)
			s.Resize(0, 0)
			s.Set("none")
			c.way(t, s)
			wantOffset(t, s, 4, 6, 7)
		})
	}
}

// TestScrollsWithoutARoomKeepWhatIsScrolled: at a height that shows all of it nothing is scrolled, but it is not forgotten.
func TestScrollsWithoutARoomKeepWhatIsScrolled(t *testing.T) {
	s := made(t, 2, 2)
	set(t, s, scrollOfLines(4, 9))
	scroll(t, s, 4, 6)
	resize(t, s, 2, 400)
	wantOffset(t, s, 4, 0, 0)
	set(t, s, "row[scroll{id=4}[gap]]")
	wantOffset(t, s, 4, 0, 0)
	resize(t, s, 2, 2)
	set(t, s, scrollOfLines(4, 9))
	wantOffset(t, s, 4, 6, 7)
}

// TestTheGreatestScroll: as many rows as a tree's text can ask for.
func TestTheGreatestScroll(t *testing.T) {
	s := made(t, 1, 1)
	set(t, s, `scroll{id=999999}[text"`+strings.Repeat("\n", 3960)+`z"]`)
	scroll(t, s, 999999, math.MaxInt)
	wantOffset(t, s, 999999, 3960, 3960)
	wantPicture(t, s, 1, "z|")
	scroll(t, s, 999999, math.MinInt)
	wantOffset(t, s, 999999, 0, 3960)
}

// TestScreenAndHitAreThoseOfTheTree: held against Frame and Hit, with the offsets as a list.
func TestScreenAndHitAreThoseOfTheTree(t *testing.T) {
	text := `row{fg=2}[` + scrollOfLines(8, 9) + `,box{bold=1}[scroll{id=3;bg=4}[text"水 a 水\nb"]],text{align=2}"水"]`
	s := made(t, 11, 4)
	set(t, s, text)
	scroll(t, s, 8, 3)
	scroll(t, s, 3, 1)
	scrolls := []api.Scroll{{Id: 3, Off: 1}, {Id: 8, Off: 3}}
	want, _, _ := paint.Frame(text, 11, 4, scrolls)
	if got := s.Screen(); !slices.Equal(got, want) {
		t.Errorf("the screen is %s, want %s", picture(got, 11), picture(want, 11))
	}
	seen := 0
	for _, y := range []int{math.MinInt, -1, 0, 1, 2, 3, 4, math.MaxInt} {
		for _, x := range []int{math.MinInt, -1, 0, 1, 2, 3, 4, 5, 6, 7, 8, 9, 10, 11, math.MaxInt} {
			node, errno := s.Hit(x, y)
			wantNode, wantErrno, _ := box.Hit(text, 11, 4, scrolls, x, y)
			if node != wantNode || errno != wantErrno {
				t.Errorf("Hit(%d, %d) = %d, %d, want %d, %d", x, y, node, errno, wantNode, wantErrno)
			}
			if inside := 0 <= x && x < 11 && 0 <= y && y < 4; inside != (errno == api.OK) {
				t.Errorf("Hit(%d, %d) = %d, %d", x, y, node, errno)
			}
			if errno == api.OK {
				seen |= 1 << node
			}
		}
	}
	if want := 1<<2 | 1<<3 | 1<<5 | 1<<6; seen != want { // the others are covered by their kids
		t.Errorf("the nodes that are hit: %b, want %b", seen, want)
	}
}

// TestHitFollowsWhatIsScrolled: the same place has another node behind a Scroll.
func TestHitFollowsWhatIsScrolled(t *testing.T) {
	s := made(t, 2, 1)
	set(t, s, `scroll{id=1}[col[text{weight=0}"a",text{weight=0}"b"]]`)
	for off, want := range []int{2, 3} {
		if node, errno := s.Hit(0, 0); node != want || errno != api.OK {
			t.Errorf("scrolled by %d, Hit(0, 0) = %d, %d, want %d", off, node, errno, want)
		}
		scroll(t, s, 1, 1)
	}
}

// TestScreenIsNewMemory: who writes into what Screen answered changes neither the session nor what Render knows.
func TestScreenIsNewMemory(t *testing.T) {
	s := made(t, 3, 2)
	set(t, s, `text"abc"`)
	spoil := func() {
		cells := s.Screen()
		for i := range cells {
			cells[i] = api.Cell{Text: "z", Part: 7}
		}
		_ = append(cells[:0], api.Cell{Text: "y"})
	}
	spoil()
	wantPicture(t, s, 3, "abc|...|")
	kept := s.Screen()
	s.Render()
	spoil()
	wantPicture(t, s, 3, "abc|...|")
	if got := s.Render(); got != "" {
		t.Errorf("behind a change of what Screen answered Render is %q", got)
	}
	set(t, s, `text"xyz"`)
	s.Render()
	if got, want := picture(kept, 3), "abc|...|"; got != want {
		t.Errorf("what Screen answered became %s", got)
	}
}

// TestAskingChangesNothing: Screen, Hit and Offset leave what Render tells as it is.
func TestAskingChangesNothing(t *testing.T) {
	one, other := made(t, 3, 2), made(t, 3, 2)
	for _, s := range []*Session{one, other} {
		set(t, s, scrollOfLines(4, 9))
		s.Render()
		scroll(t, s, 4, 2)
	}
	for range 3 {
		lookOf(one, 3, 2)
	}
	if got, want := one.Render(), other.Render(); got != want || got == "" {
		t.Errorf("Render = %q, want %q", got, want)
	}
}
