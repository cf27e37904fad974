package box

import (
	"math"
	"strings"
	"testing"

	"pane/api"
)

// hits has a line for each row of a screen, and for each place of it the digit or letter of its node.
func hits(t *testing.T, text string, w, h int, scrolls []api.Scroll) []string {
	t.Helper()
	var rows []string
	for y := range h {
		row := ""
		for x := range w {
			n, errno, place := Hit(text, w, h, scrolls, x, y)
			if errno != api.OK || place != 0 {
				t.Fatalf("Hit(%q, %d, %d, %v, %d, %d) answers %d at %d", text, w, h, scrolls, x, y, errno, place)
			}
			row += string("0123456789abcdef"[n])
		}
		rows = append(rows, row)
	}
	return rows
}

func TestHit(t *testing.T) {
	scrolls := []api.Scroll{{Id: 1, Off: 1}, {Id: 2, Off: 2}}
	for _, c := range []struct {
		name, text string
		w, h       int
		want       string
	}{
		{"one node", "gap", 3, 2, "000 000"},
		{"an empty row", "row[]", 3, 1, "000"},
		{"a row", "row[gap,gap]", 4, 2, "1122 1122"},
		{"the gaps of a row are its own", "row{gap=1}[gap,gap]", 5, 1, "11022"},
		{"what is left over of a row is its own", "row[gap{max=1},gap{max=2}]", 5, 1, "12200"},
		{"a col", "col{gap=1}[gap,gap]", 2, 3, "11 00 22"},
		{"a box", "box[gap]", 4, 3, "0000 0110 0000"},
		{"a box in a box", "box[box[gap]]", 5, 5, "00000 01110 01210 01110 00000"},
		{"the last one of a stack", "stack[gap,gap,gap]", 3, 1, "333"},
		{"a box over a gap", "stack[gap,box[gap]]", 5, 3, "22222 23332 22222"},
		{"parts of a stack over others", "stack[gap,row[gap{max=2}],col[gap{max=1}]]", 3, 2, "555 444"},
		{"nodes within an earlier one are beneath", "stack[box[gap],gap]", 3, 3, "333 333 333"},
		{"a kid without a width", "row[gap{max=0},gap]", 3, 1, "222"},
		{"empty clips stand at 0, 0 and have nothing", "row{gap=9}[gap,box[gap]]", 3, 2, "000 000"},
		{"a box without a place within", "box[gap]", 2, 2, "00 00"},
		{"a scroll's kid", `scroll[text"a\nb\nc"]`, 2, 2, "11 11"},
		{"a col in a scroll", `scroll[col[text{weight=0}"a",text{weight=0}"b",text{weight=0}"c"]]`, 1, 2, "2 3"},
		{"a col that is scrolled", `scroll{id=1}[col[text{weight=0}"a",text{weight=0}"b",text{weight=0}"c"]]`, 1, 2, "3 4"},
		{"a scroll cuts what stands out of it", `col[gap{max=1},scroll{id=2;max=1}[text"a\nb\nc\nd"],gap]`, 2, 4, "11 33 44 44"},
		{"a box that is scrolled", `scroll{id=1}[box[text"a\nb"]]`, 4, 3, "1221 1221 1111"},
	} {
		t.Run(c.name, func(t *testing.T) {
			if got := strings.Join(hits(t, c.text, c.w, c.h, scrolls), " "); got != c.want {
				t.Errorf("%q in %d and %d: %s, want %s", c.text, c.w, c.h, got, c.want)
			}
		})
	}
}

func TestHitAtTheEdges(t *testing.T) {
	text := "stack[gap,box{pad=1}[gap]]"
	for _, c := range []struct {
		x, y, want int
		errno      api.Errno
	}{
		{0, 0, 2, api.OK}, {6, 0, 2, api.OK}, {0, 4, 2, api.OK}, {6, 4, 2, api.OK},
		{2, 2, 3, api.OK}, {4, 2, 3, api.OK}, {1, 2, 2, api.OK}, {5, 2, 2, api.OK}, {2, 1, 2, api.OK}, {4, 3, 2, api.OK},
		{-1, 0, 0, api.ErrRange}, {0, -1, 0, api.ErrRange}, {-1, -1, 0, api.ErrRange},
		{7, 0, 0, api.ErrRange}, {0, 5, 0, api.ErrRange}, {7, 5, 0, api.ErrRange},
		{7, 4, 0, api.ErrRange}, {6, 5, 0, api.ErrRange},
		{math.MinInt, 0, 0, api.ErrRange}, {math.MaxInt, 0, 0, api.ErrRange},
		{0, math.MinInt, 0, api.ErrRange}, {0, math.MaxInt, 0, api.ErrRange},
	} {
		if got, errno, place := Hit(text, 7, 5, nil, c.x, c.y); got != c.want || errno != c.errno || place != 0 {
			t.Errorf("Hit(%q, 7, 5, nil, %d, %d) = %d, %d at %d, want %d, %d", text, c.x, c.y, got, errno, place, c.want, c.errno)
		}
	}
	if got, errno, _ := Hit("row[gap,gap]", 400, 400, nil, 399, 399); got != 2 || errno != api.OK {
		t.Errorf("the last place of the greatest screen: %d, %d", got, errno)
	}
	if got, errno, _ := Hit("row[gap,gap]", 400, 400, nil, 400, 399); got != 0 || errno != api.ErrRange {
		t.Errorf("one behind the greatest screen: %d, %d", got, errno)
	}
	if got, errno, _ := Hit("box[gap]", 1, 1, nil, 0, 0); got != 0 || errno != api.OK {
		t.Errorf("the one place of the smallest screen: %d, %d", got, errno)
	}
}

// A node far off the screen isn't at a place beyond its edge: there is none.
func TestHitBeyondTheScreen(t *testing.T) {
	for x := 4; x < 12; x++ {
		if got, errno, _ := Hit("row{gap=4}[gap,gap,gap]", 4, 1, nil, x, 0); got != 0 || errno != api.ErrRange {
			t.Errorf("at %d: %d, %d, want ErrRange", x, got, errno)
		}
	}
	scrolls := []api.Scroll{{Id: 1, Off: 2}}
	for _, y := range []int{-2, -1, 2, 3} {
		if got, errno, _ := Hit(`scroll{id=1}[text"a\nb\nc\nd\ne"]`, 4, 2, scrolls, 0, y); got != 0 || errno != api.ErrRange {
			t.Errorf("at row %d: %d, %d, want ErrRange", y, got, errno)
		}
	}
}
