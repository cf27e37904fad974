package box

import (
	"math"
	"slices"
	"strings"
	"testing"

	"pane/api"
)

// all is a node of which everything is seen.
func all(x, y, w, h int) api.Place {
	return api.Place{Rect: rect(x, y, w, h), Clip: rect(x, y, w, h)}
}

// none is a node of which nothing is seen.
func none(x, y, w, h int) api.Place { return api.Place{Rect: rect(x, y, w, h)} }

func part(r, clip api.Rect) api.Place { return api.Place{Rect: r, Clip: clip} }

// scrolled is a node that is a scroll.
func scrolled(p api.Place, off, room int) api.Place {
	p.Off, p.Room = off, room
	return p
}

func wantPlaces(t *testing.T, text string, w, h int, scrolls []api.Scroll, want []api.Place) {
	t.Helper()
	got, errno, place := Layout(text, w, h, scrolls)
	if errno != api.OK || place != 0 {
		t.Errorf("Layout(%q, %d, %d, %v) answers %d at %d", text, w, h, scrolls, errno, place)
	} else if !slices.Equal(got, want) {
		t.Errorf("Layout(%q, %d, %d, %v) =\n%+v, want\n%+v", text, w, h, scrolls, got, want)
	}
}

type layoutCase struct {
	name, text string
	w, h       int
	want       []api.Place
}

func wantLayouts(t *testing.T, cases []layoutCase) {
	for _, c := range cases {
		t.Run(c.name, func(t *testing.T) { wantPlaces(t, c.text, c.w, c.h, nil, c.want) })
	}
}

func TestLayoutOfKinds(t *testing.T) {
	wantLayouts(t, []layoutCase{
		{"the first node has it all", "gap", 7, 3, []api.Place{all(0, 0, 7, 3)}},
		{"also a text that needs less", `text"a"`, 7, 3, []api.Place{all(0, 0, 7, 3)}},
		{"also with a max", "gap{max=1;weight=0}", 7, 3, []api.Place{all(0, 0, 7, 3)}},
		{"also with a min", "gap{min=9}", 7, 3, []api.Place{all(0, 0, 7, 3)}},
		{"an empty row", "row[]", 7, 3, []api.Place{all(0, 0, 7, 3)}},
		{"an empty col", "col[]", 7, 3, []api.Place{all(0, 0, 7, 3)}},
		{"an empty stack", "stack[]", 7, 3, []api.Place{all(0, 0, 7, 3)}},

		{"a row", "row[gap,gap,gap]", 9, 3, []api.Place{all(0, 0, 9, 3), all(0, 0, 3, 3), all(3, 0, 3, 3), all(6, 0, 3, 3)}},
		{"a row with gaps", "row{gap=2}[gap,gap,gap]", 10, 3, []api.Place{all(0, 0, 10, 3), all(0, 0, 2, 3), all(4, 0, 2, 3), all(8, 0, 2, 3)}},
		{"a row with weights", "row[gap{weight=2},gap]", 9, 1, []api.Place{all(0, 0, 9, 1), all(0, 0, 6, 1), all(6, 0, 3, 1)}},
		{"a row with a rest", "row[gap,gap]", 5, 1, []api.Place{all(0, 0, 5, 1), all(0, 0, 3, 1), all(3, 0, 2, 1)}},
		{"a row with one kid", "row{gap=5}[gap]", 4, 2, []api.Place{all(0, 0, 4, 2), all(0, 0, 4, 2)}},

		{"a col", "col[gap,gap,gap]", 9, 3, []api.Place{all(0, 0, 9, 3), all(0, 0, 9, 1), all(0, 1, 9, 1), all(0, 2, 9, 1)}},
		{"a col with gaps", "col{gap=2}[gap,gap,gap]", 3, 10, []api.Place{all(0, 0, 3, 10), all(0, 0, 3, 2), all(0, 4, 3, 2), all(0, 8, 3, 2)}},
		{"a col with weights", "col[gap{weight=2},gap]", 1, 9, []api.Place{all(0, 0, 1, 9), all(0, 0, 1, 6), all(0, 6, 1, 3)}},
		{"a col with a rest", "col[gap,gap]", 1, 5, []api.Place{all(0, 0, 1, 5), all(0, 0, 1, 3), all(0, 3, 1, 2)}},
		{"a col with one kid", "col{gap=5}[gap]", 2, 4, []api.Place{all(0, 0, 2, 4), all(0, 0, 2, 4)}},

		{"a stack", `stack[gap,text"a",gap{max=1;weight=0}]`, 7, 3, []api.Place{all(0, 0, 7, 3), all(0, 0, 7, 3), all(0, 0, 7, 3), all(0, 0, 7, 3)}},

		{"a box", "box[gap]", 7, 5, []api.Place{all(0, 0, 7, 5), all(1, 1, 5, 3)}},
		{"a box without a border", "box{border=0}[gap]", 7, 5, []api.Place{all(0, 0, 7, 5), all(0, 0, 7, 5)}},
		{"a box with a pad", "box{pad=1}[gap]", 7, 5, []api.Place{all(0, 0, 7, 5), all(2, 2, 3, 1)}},
		{"a pad and no border", "box{pad=2;border=0}[gap]", 7, 5, []api.Place{all(0, 0, 7, 5), all(2, 2, 3, 1)}},
		{"a box as high as its frame", "box[gap]", 7, 2, []api.Place{all(0, 0, 7, 2), none(1, 1, 5, 0)}},
		{"a box as wide as its frame", "box[gap]", 2, 7, []api.Place{all(0, 0, 2, 7), none(1, 1, 0, 5)}},
		{"a box lower than its frame", "box{pad=2}[gap]", 9, 3, []api.Place{all(0, 0, 9, 3), none(3, 1, 3, 0)}},
		{"a box narrower than its frame", "box{pad=20}[gap]", 3, 50, []api.Place{all(0, 0, 3, 50), none(1, 21, 0, 8)}},
		{"a box of one place", "box[gap]", 1, 1, []api.Place{all(0, 0, 1, 1), none(0, 0, 0, 0)}},
		{"what its kid needs is nothing to it", `box[text{weight=0;max=1}"a"]`, 9, 9, []api.Place{all(0, 0, 9, 9), all(1, 1, 7, 7)}},

		{"a scroll with room to spare", `scroll[text"a\nb"]`, 4, 5, []api.Place{all(0, 0, 4, 5), all(0, 0, 4, 5)}},
		{"a scroll that just holds it", `scroll[text"a\nb"]`, 4, 2, []api.Place{all(0, 0, 4, 2), all(0, 0, 4, 2)}},
		{"a scroll that doesn't", `scroll[text"a\nb\nc"]`, 4, 2, []api.Place{scrolled(all(0, 0, 4, 2), 0, 1), part(rect(0, 0, 4, 3), rect(0, 0, 4, 2))}},
		{"a scroll's kid hangs on its width", `scroll[text"ab cd ef"]`, 2, 2, []api.Place{scrolled(all(0, 0, 2, 2), 0, 1), part(rect(0, 0, 2, 3), rect(0, 0, 2, 2))}},
		{"a scroll's kid is as wide as it", `scroll[text{wrap=0}"abcdef"]`, 2, 2, []api.Place{all(0, 0, 2, 2), all(0, 0, 2, 2)}},

		{"the document's example", `row{gap=1}[text{weight=0}"Name:",box{id=7}[text"水"]]`, 12, 3, []api.Place{all(0, 0, 12, 3), all(0, 0, 5, 3), all(6, 0, 6, 3), all(7, 1, 4, 1)}},
		{"kinds in kinds", `row[col[gap,row[gap,gap]],box[stack[gap,col[gap,gap]]]]`, 12, 6, []api.Place{
			all(0, 0, 12, 6),
			all(0, 0, 6, 6), all(0, 0, 6, 3), all(0, 3, 6, 3), all(0, 3, 3, 3), all(3, 3, 3, 3),
			all(6, 0, 6, 6), all(7, 1, 4, 4), all(7, 1, 4, 4), all(7, 1, 4, 4), all(7, 1, 4, 2), all(7, 3, 4, 2),
		}},
	})
}

// widthsInRow tells how wide a row's kids are, and heightsInCol how high a col's.
func widthsInRow(t *testing.T, kids string, w int) []int {
	t.Helper()
	return sidesOf(t, "row["+kids+"]", w, 1, func(r api.Rect) int { return r.W })
}

func heightsInCol(t *testing.T, kids string, w, h int) []int {
	t.Helper()
	return sidesOf(t, "col["+kids+"]", w, h, func(r api.Rect) int { return r.H })
}

func sidesOf(t *testing.T, text string, w, h int, side func(api.Rect) int) []int {
	t.Helper()
	places, errno, place := Layout(text, w, h, nil)
	if errno != api.OK {
		t.Fatalf("Layout(%q, %d, %d) answers %d at %d", text, w, h, errno, place)
	}
	var sides []int
	for _, p := range places[1:] {
		sides = append(sides, side(p.Rect))
	}
	return sides
}

func TestWantsOfARowsKids(t *testing.T) {
	for _, c := range []struct {
		name, kids string
		w          int
		want       []int
	}{
		{"a weight: the need is nothing to it", `text"abcdef",gap`, 8, []int{4, 4}},
		{"weight 0: the need", `text{weight=0}"abc",gap`, 8, []int{3, 5}},
		{"weight 0, the widest paragraph", `text{weight=0}"a\nbcd\nef",gap`, 8, []int{3, 5}},
		{"weight 0, a need above the room", `text{weight=0}"abcdefghij",gap`, 8, []int{8, 0}},
		{"weight 0, all of them", `text{weight=0}"abc",text{weight=0}"de"`, 8, []int{3, 2}},
		{"weight 0 of a gap", `gap{weight=0},gap`, 8, []int{0, 8}},
		{"weight 0, a max below the need", `text{weight=0;max=2}"abc",gap`, 8, []int{2, 6}},
		{"weight 0, the need as max", `text{weight=0;max=3}"abc",gap`, 8, []int{3, 5}},
		{"weight 0, a max above the need", `text{weight=0;max=4}"abc",gap`, 8, []int{3, 5}},
		{"weight 0, a max of 0", `text{weight=0;max=0}"abc",gap`, 8, []int{0, 8}},
		{"weight 0, a min below the need", `text{weight=0;min=2}"abc",gap`, 8, []int{3, 5}},
		{"weight 0, a min above the need", `text{weight=0;min=5}"abc",gap`, 8, []int{5, 3}},
		{"weight 0, min and max below the need", `text{weight=0;min=1;max=2}"abc",gap`, 8, []int{2, 6}},
		{"weight 0, min and max above the need", `text{weight=0;min=4;max=6}"abc",gap`, 8, []int{4, 4}},
		{"weight 0, a min above its max", `text{weight=0;min=5;max=2}"abc",gap`, 8, []int{5, 3}},
		{"weight 0, the greatest max", `text{weight=0;max=100000}"abc",gap`, 8, []int{3, 5}},
		{"weight 0, the greatest min", `gap,text{weight=0;min=100000}"abc",gap`, 8, []int{0, 8, 0}},
		{"a min", `gap{min=6},gap`, 8, []int{7, 1}},
		{"a max", `gap{max=1},gap`, 8, []int{1, 7}},
		{"a max of 0 with a weight", `gap{max=0},gap`, 8, []int{0, 8}},
		{"min and max", `gap{min=2;max=3},gap`, 8, []int{3, 5}},
		{"a min above its max, with a weight", `gap{min=5;max=3},gap`, 8, []int{5, 3}},
		{"the greatest weight", `gap{weight=100000},gap`, 8, []int{8, 0}},
		{"mins above the room", `gap{min=5},gap{min=5},gap{min=5}`, 8, []int{5, 3, 0}},
		{"all at their max", `gap{max=2},gap{max=1}`, 8, []int{2, 1}},
	} {
		t.Run(c.name, func(t *testing.T) {
			if got := widthsInRow(t, c.kids, c.w); !slices.Equal(got, c.want) {
				t.Errorf("in %d columns the kids %s are %v wide, want %v", c.w, c.kids, got, c.want)
			}
		})
	}
}

func TestWantsOfAColsKids(t *testing.T) {
	for _, c := range []struct {
		name, kids string
		w, h       int
		want       []int
	}{
		{"a weight: the need is nothing to it", `text"a\nb\nc",gap`, 5, 8, []int{4, 4}},
		{"weight 0: the need", `text{weight=0}"a\nb\nc",gap`, 5, 8, []int{3, 5}},
		{"weight 0, the need at the col's width", `text{weight=0}"ab cd ef",gap`, 5, 8, []int{2, 6}},
		{"weight 0, the need in 1 column", `text{weight=0}"ab cd",gap`, 1, 8, []int{4, 4}},
		{"weight 0, no wrap", `text{weight=0;wrap=0}"ab cd ef",gap`, 5, 8, []int{1, 7}},
		{"weight 0, a need above the room", `text{weight=0}"abcdefghij",gap`, 1, 8, []int{8, 0}},
		{"weight 0, a max below the need", `text{weight=0;max=2}"a\nb\nc",gap`, 5, 8, []int{2, 6}},
		{"weight 0, a max above the need", `text{weight=0;max=4}"a\nb\nc",gap`, 5, 8, []int{3, 5}},
		{"weight 0, a max of 0", `text{weight=0;max=0}"a\nb\nc",gap`, 5, 8, []int{0, 8}},
		{"weight 0, a min below the need", `text{weight=0;min=2}"a\nb\nc",gap`, 5, 8, []int{3, 5}},
		{"weight 0, a min above the need", `text{weight=0;min=5}"a\nb\nc",gap`, 5, 8, []int{5, 3}},
		{"weight 0, a min above its max", `text{weight=0;min=5;max=2}"a\nb\nc",gap`, 5, 8, []int{5, 3}},
		{"a min", `gap{min=6},gap`, 5, 8, []int{7, 1}},
		{"a max", `gap{max=1},gap`, 5, 8, []int{1, 7}},
		{"mins above the room", `gap{min=5},gap{min=5},gap{min=5}`, 5, 8, []int{5, 3, 0}},
		{"weight 0 of a box", `box{weight=0}[gap],gap`, 5, 8, []int{2, 0, 6}},
		{"weight 0 of a scroll", `scroll{weight=0}[text"a\nb\nc"],gap`, 5, 8, []int{3, 3, 5}},
		{"weight 0 of a row", `row{weight=0}[text"ab cd",gap],gap`, 4, 8, []int{2, 2, 2, 6}},
		{"weight 0 of a col with gaps", `col{weight=0;gap=1}[text"a",text"b"],gap`, 4, 8, []int{3, 1, 1, 5}},
	} {
		t.Run(c.name, func(t *testing.T) {
			if got := heightsInCol(t, c.kids, c.w, c.h); !slices.Equal(got, c.want) {
				t.Errorf("in %d columns and %d rows the kids %s are %v high, want %v", c.w, c.h, c.kids, got, c.want)
			}
		})
	}
}

func TestLayoutOfClips(t *testing.T) {
	wantLayouts(t, []layoutCase{
		{"a row's kids beyond its room", "row{gap=3}[gap,gap,gap]", 5, 2, []api.Place{all(0, 0, 5, 2), none(0, 0, 0, 2), none(3, 0, 0, 2), none(6, 0, 0, 2)}},
		{"a col's kids beyond its room", "col{gap=3}[gap,gap,gap]", 2, 5, []api.Place{all(0, 0, 2, 5), none(0, 0, 2, 0), none(0, 3, 2, 0), none(0, 6, 2, 0)}},
		{"kids of what has no width", "row[gap{min=9},box[row[gap,gap]]]", 9, 9, []api.Place{all(0, 0, 9, 9), all(0, 0, 9, 9), none(9, 0, 0, 9), none(9, 1, 0, 7), none(9, 1, 0, 7), none(9, 1, 0, 7)}},
		{"a box in a scroll", `scroll[box[text"a\nb\nc"]]`, 5, 3, []api.Place{
			scrolled(all(0, 0, 5, 3), 0, 2), part(rect(0, 0, 5, 5), rect(0, 0, 5, 3)), part(rect(1, 1, 3, 3), rect(1, 1, 3, 2)),
		}},
		{"a scroll in a box", `box[scroll[text"a\nb\nc"]]`, 5, 4, []api.Place{
			all(0, 0, 5, 4), scrolled(all(1, 1, 3, 2), 0, 1), part(rect(1, 1, 3, 3), rect(1, 1, 3, 2)),
		}},
		{"a col in a scroll", `scroll[col[text{weight=0}"a\nb",text{weight=0}"c\nd",text{weight=0}"e\nf"]]`, 2, 3, []api.Place{
			scrolled(all(0, 0, 2, 3), 0, 3), part(rect(0, 0, 2, 6), rect(0, 0, 2, 3)),
			all(0, 0, 2, 2), part(rect(0, 2, 2, 2), rect(0, 2, 2, 1)), none(0, 4, 2, 2),
		}},
		{"a scroll right in a scroll has no room", `scroll[scroll[text"a\nb\nc"]]`, 2, 2, []api.Place{
			scrolled(all(0, 0, 2, 2), 0, 1), part(rect(0, 0, 2, 3), rect(0, 0, 2, 2)), part(rect(0, 0, 2, 3), rect(0, 0, 2, 2)),
		}},
		{"a scroll of nothing", `col[gap{min=5},scroll[text"a\nb"]]`, 2, 5, []api.Place{
			all(0, 0, 2, 5), all(0, 0, 2, 5), scrolled(none(0, 5, 2, 0), 0, 2), none(0, 5, 2, 2),
		}},
	})
}

func TestLayoutOfScrolls(t *testing.T) {
	text := `scroll{id=2}[text"a\nb\nc\nd\ne"]`
	far := make([]api.Scroll, 100000)
	for i := range far {
		far[i] = api.Scroll{Id: 3 + i, Off: 1}
	}
	for _, c := range []struct {
		name    string
		scrolls []api.Scroll
		off     int
	}{
		{"no list", nil, 0},
		{"an empty one", []api.Scroll{}, 0},
		{"0", []api.Scroll{{Id: 2, Off: 0}}, 0},
		{"below 0", []api.Scroll{{Id: 2, Off: -1}}, 0},
		{"far below 0", []api.Scroll{{Id: 2, Off: math.MinInt}}, 0},
		{"1", []api.Scroll{{Id: 2, Off: 1}}, 1},
		{"one below its room", []api.Scroll{{Id: 2, Off: 2}}, 2},
		{"its room", []api.Scroll{{Id: 2, Off: 3}}, 3},
		{"one above its room", []api.Scroll{{Id: 2, Off: 4}}, 3},
		{"far above its room", []api.Scroll{{Id: 2, Off: math.MaxInt}}, 3},
		{"two of its id", []api.Scroll{{Id: 2, Off: 3}, {Id: 2, Off: 1}}, 1},
		{"two of its id, the last one below 0", []api.Scroll{{Id: 2, Off: 3}, {Id: 2, Off: -5}}, 0},
		{"two of its id, the last one 0", []api.Scroll{{Id: 2, Off: 3}, {Id: 2, Off: 0}}, 0},
		{"others behind it", []api.Scroll{{Id: 2, Off: 1}, {Id: 3, Off: 2}, {Id: 0, Off: 3}}, 1},
		{"others ahead of it", []api.Scroll{{Id: 3, Off: 2}, {Id: 0, Off: 3}, {Id: 2, Off: 1}}, 1},
		{"an id that no node has", []api.Scroll{{Id: 3, Off: 1}}, 0},
		{"an id below 0", []api.Scroll{{Id: -2, Off: 1}, {Id: math.MinInt, Off: 2}}, 0},
		{"the id 0", []api.Scroll{{Id: 0, Off: 1}}, 0},
		{"a long list", append([]api.Scroll{{Id: 2, Off: 2}}, far...), 2},
		{"a long list without it", far, 0},
	} {
		t.Run(c.name, func(t *testing.T) {
			given := slices.Clone(c.scrolls)
			wantPlaces(t, text, 4, 2, c.scrolls, []api.Place{
				scrolled(all(0, 0, 4, 2), c.off, 3), part(rect(0, -c.off, 4, 5), rect(0, 0, 4, 2)),
			})
			if !slices.Equal(c.scrolls, given) {
				t.Error("the list was changed")
			}
		})
	}
}

func TestLayoutOfOtherScrolls(t *testing.T) {
	scrolls := []api.Scroll{{Id: 0, Off: 1}, {Id: 1, Off: 2}, {Id: 2, Off: 1}, {Id: 3, Off: 2}}
	// A scroll without an id stays, whatever the list says of 0.
	wantPlaces(t, `scroll[text"a\nb\nc"]`, 2, 2, scrolls, []api.Place{
		scrolled(all(0, 0, 2, 2), 0, 1), part(rect(0, 0, 2, 3), rect(0, 0, 2, 2)),
	})
	wantPlaces(t, `scroll{id=0}[text"a\nb\nc"]`, 2, 2, scrolls, []api.Place{
		scrolled(all(0, 0, 2, 2), 0, 1), part(rect(0, 0, 2, 3), rect(0, 0, 2, 2)),
	})
	// What is no scroll has no offset.
	wantPlaces(t, `box{id=1}[text{id=2}"a\nb\nc\nd"]`, 3, 3, scrolls, []api.Place{all(0, 0, 3, 3), all(1, 1, 1, 1)})
	// Without room there is nothing to scroll.
	wantPlaces(t, `scroll{id=1}[text"a\nb"]`, 3, 2, scrolls, []api.Place{all(0, 0, 3, 2), all(0, 0, 3, 2)})
	wantPlaces(t, `scroll{id=1}[text"a\nb"]`, 3, 9, scrolls, []api.Place{all(0, 0, 3, 9), all(0, 0, 3, 9)})
	// Scrolls beside one another, each by its own.
	wantPlaces(t, `row[scroll{id=1}[text"a\nb\nc"],scroll{id=2}[text"d\ne\nf"]]`, 4, 1, scrolls, []api.Place{
		all(0, 0, 4, 1),
		scrolled(all(0, 0, 2, 1), 2, 2), part(rect(0, -2, 2, 3), rect(0, 0, 2, 1)),
		scrolled(all(2, 0, 2, 1), 1, 2), part(rect(2, -1, 2, 3), rect(2, 0, 2, 1)),
	})
	// A scroll that another has moved: all three clips count.
	wantPlaces(t, `scroll{id=1}[col[text{weight=0}"a",scroll{id=3;max=3}[text"b\nc\nd\ne\nf\ng"],gap{min=9}]]`, 3, 4, scrolls, []api.Place{
		scrolled(all(0, 0, 3, 4), 2, 3),
		part(rect(0, -2, 3, 7), rect(0, 0, 3, 4)),
		none(0, -2, 3, 1),
		scrolled(none(0, -1, 3, 0), 2, 6),
		none(0, -3, 3, 6),
		part(rect(0, -1, 3, 6), rect(0, 0, 3, 4)),
	})
	wantPlaces(t, `scroll{id=1}[col[text{weight=0}"a",scroll{id=3;max=3}[text"b\nc\nd\ne\nf\ng"],gap]]`, 3, 4, scrolls, []api.Place{
		scrolled(all(0, 0, 3, 4), 2, 3),
		part(rect(0, -2, 3, 7), rect(0, 0, 3, 4)),
		none(0, -2, 3, 1),
		scrolled(part(rect(0, -1, 3, 3), rect(0, 0, 3, 2)), 2, 3),
		part(rect(0, -3, 3, 6), rect(0, 0, 3, 2)),
		part(rect(0, 2, 3, 3), rect(0, 2, 3, 2)),
	})
	// A box's frame scrolls with it.
	wantPlaces(t, `scroll{id=1}[box[text"a\nb\nc"]]`, 5, 3, scrolls, []api.Place{
		scrolled(all(0, 0, 5, 3), 2, 2), part(rect(0, -2, 5, 5), rect(0, 0, 5, 3)), part(rect(1, -1, 3, 3), rect(1, 0, 3, 2)),
	})
}

func TestLayoutAtTheEndsOfWAndH(t *testing.T) {
	wantPlaces(t, "row[gap,gap]", 1, 1, nil, []api.Place{all(0, 0, 1, 1), all(0, 0, 1, 1), none(1, 0, 0, 1)})
	wantPlaces(t, "row[gap,gap]", 400, 400, nil, []api.Place{all(0, 0, 400, 400), all(0, 0, 200, 400), all(200, 0, 200, 400)})
	wantPlaces(t, "col[gap,gap]", 1, 400, nil, []api.Place{all(0, 0, 1, 400), all(0, 0, 1, 200), all(0, 200, 1, 200)})
	wantPlaces(t, "col[gap,gap]", 400, 1, nil, []api.Place{all(0, 0, 400, 1), all(0, 0, 400, 1), none(0, 1, 400, 0)})
	for _, wrong := range []int{0, -1, 401, math.MinInt, math.MaxInt} {
		for _, size := range [][2]int{{wrong, 5}, {5, wrong}, {wrong, wrong}, {wrong, 400}, {1, wrong}} {
			if got, errno, place := Layout("row[gap]", size[0], size[1], nil); got != nil || errno != api.ErrRange || place != 0 {
				t.Errorf("Layout(.., %d, %d) = %v, %d at %d, want ErrRange", size[0], size[1], got, errno, place)
			}
			if got, errno, place := Hit("row[gap]", size[0], size[1], nil, 0, 0); got != 0 || errno != api.ErrRange || place != 0 {
				t.Errorf("Hit(.., %d, %d, ..) = %d, %d at %d, want ErrRange", size[0], size[1], got, errno, place)
			}
		}
	}
}

func TestLayoutAndHitHaveTheErrorsOfParse(t *testing.T) {
	for _, c := range wrongTexts {
		t.Run(c.name, func(t *testing.T) {
			for _, size := range [][2]int{{5, 5}, {0, 5}, {5, 401}, {-1, -1}} {
				w, h := size[0], size[1]
				if got, errno, place := Layout(c.text, w, h, nil); got != nil || errno != c.errno || place != c.place {
					t.Errorf("Layout(.., %d, %d) = %v, %d at %d, want %d at %d", w, h, got, errno, place, c.errno, c.place)
				}
				for _, x := range []int{0, -1, 5} {
					if got, errno, place := Hit(c.text, w, h, nil, x, x); got != 0 || errno != c.errno || place != c.place {
						t.Errorf("Hit(.., %d, %d, .., %d, %d) = %d, %d at %d, want %d at %d", w, h, x, x, got, errno, place, c.errno, c.place)
					}
				}
			}
		})
	}
}

func TestLayoutAnswersNewMemory(t *testing.T) {
	text := `scroll{id=2}[text"a\nb\nc"]`
	first, _, _ := Layout(text, 4, 2, nil)
	kept := slices.Clone(first)
	second, _, _ := Layout(text, 4, 2, nil)
	for i := range second {
		second[i] = api.Place{}
	}
	if !slices.Equal(first, kept) {
		t.Error("two answers share memory")
	}
}

// The greatest trees have positions far from the screen; all are told as they are.
func TestLayoutFarOff(t *testing.T) {
	kids := strings.Repeat("gap,", 98) + "gap"
	places, errno, _ := Layout("row{gap=100}["+kids+"]", 400, 1, nil)
	if last := none(9800, 0, 0, 1); errno != api.OK || len(places) != 100 || places[99] != last {
		t.Errorf("the last kid of a row of gaps: %d, %+v, want %+v", errno, places[len(places)-1], last)
	}
	lines := strings.Repeat("\n", 3700)
	text := `scroll{id=1}[col[scroll{id=2;max=1}[col[scroll{id=3;max=1}[col[scroll{id=4;max=1}[text"` + lines + `"]]]]]]]`
	var scrolls []api.Scroll
	for id := 1; id <= 4; id++ {
		scrolls = append(scrolls, api.Scroll{Id: id, Off: math.MaxInt})
	}
	want := []api.Place{
		scrolled(all(0, 0, 1, 1), 3700, 3700), part(rect(0, -3700, 1, 3701), rect(0, 0, 1, 1)),
		scrolled(none(0, -3700, 1, 1), 3700, 3700), none(0, -7400, 1, 3701),
		scrolled(none(0, -7400, 1, 1), 3700, 3700), none(0, -11100, 1, 3701),
		scrolled(none(0, -11100, 1, 1), 3700, 3700), none(0, -14800, 1, 3701),
	}
	wantPlaces(t, text, 1, 1, scrolls, want)
}
