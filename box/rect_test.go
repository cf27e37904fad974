package box

import (
	"math"
	"testing"

	"pane/api"
)

func rect(x, y, w, h int) api.Rect { return api.Rect{X: x, Y: y, W: w, H: h} }

func TestCap(t *testing.T) {
	for _, c := range []struct {
		name       string
		a, b, want api.Rect
	}{
		{"the same", rect(1, 2, 3, 4), rect(1, 2, 3, 4), rect(1, 2, 3, 4)},
		{"one within the other", rect(0, 0, 9, 9), rect(2, 3, 4, 5), rect(2, 3, 4, 5)},
		{"over a corner", rect(0, 0, 5, 5), rect(3, 3, 5, 5), rect(3, 3, 2, 2)},
		{"over the other corner", rect(0, 3, 5, 5), rect(3, 0, 5, 5), rect(3, 3, 2, 2)},
		{"a cross", rect(0, 3, 9, 2), rect(4, 0, 3, 9), rect(4, 3, 3, 2)},
		{"one place", rect(0, 0, 5, 5), rect(4, 4, 5, 5), rect(4, 4, 1, 1)},
		{"below 0", rect(-7, -8, 5, 5), rect(-4, -9, 5, 4), rect(-4, -8, 2, 3)},
		{"from below 0 on", rect(-2, -2, 4, 4), rect(0, 0, 9, 9), rect(0, 0, 2, 2)},

		{"side by side", rect(0, 0, 5, 5), rect(5, 0, 5, 5), rect(0, 0, 0, 0)},
		{"one below the other", rect(0, 0, 5, 5), rect(0, 5, 5, 5), rect(0, 0, 0, 0)},
		{"corner at corner", rect(0, 0, 5, 5), rect(5, 5, 5, 5), rect(0, 0, 0, 0)},
		{"far off", rect(50, 60, 5, 5), rect(-70, -80, 5, 5), rect(0, 0, 0, 0)},
		{"columns in common, no rows", rect(1, 1, 5, 2), rect(2, 7, 5, 2), rect(0, 0, 0, 0)},
		{"rows in common, no columns", rect(1, 1, 2, 5), rect(7, 2, 2, 5), rect(0, 0, 0, 0)},
		{"no width", rect(2, 2, 0, 3), rect(0, 0, 9, 9), rect(0, 0, 0, 0)},
		{"no height", rect(2, 2, 3, 0), rect(0, 0, 9, 9), rect(0, 0, 0, 0)},
		{"nothing with itself", rect(3, 3, 0, 0), rect(3, 3, 0, 0), rect(0, 0, 0, 0)},
		{"a width below 0", rect(5, 0, -3, 5), rect(0, 0, 9, 9), rect(0, 0, 0, 0)},
		{"a height below 0", rect(0, 5, 5, -3), rect(0, 0, 9, 9), rect(0, 0, 0, 0)},

		{"the greatest one", rect(-100000, -100000, 100000, 100000), rect(-100000, -100000, 100000, 100000), rect(-100000, -100000, 100000, 100000)},
		{"at the bounds", rect(100000, 100000, 100000, 100000), rect(100000, 100000, 100000, 100000), rect(100000, 100000, 100000, 100000)},
		{"one beyond the bounds", rect(100001, -100001, 100001, 100001), rect(100000, -100000, 100000, 100000), rect(100000, -100000, 100000, 100000)},
		{"numbers beyond all bounds", rect(math.MaxInt, math.MinInt, math.MaxInt, math.MaxInt), rect(99999, -5, 9, 9), rect(100000, -5, 8, 5)},
		{"numbers below all bounds", rect(0, 0, math.MinInt, 5), rect(0, 0, 5, 5), rect(0, 0, 0, 0)},
		{"X is clamped alone", rect(-100005, 0, 10, 1), rect(-100000, 0, 20, 1), rect(-100000, 0, 10, 1)},
		{"Y is clamped alone", rect(0, -100005, 1, 10), rect(0, -100000, 1, 20), rect(0, -100000, 1, 10)},
		{"all that is below 0 ends at 0", rect(math.MinInt, math.MinInt, math.MaxInt, math.MaxInt), rect(0, 0, 9, 9), rect(0, 0, 0, 0)},
		{"but for its last place", rect(math.MinInt, math.MinInt, math.MaxInt, math.MaxInt), rect(-1, -1, 9, 9), rect(-1, -1, 1, 1)},
	} {
		t.Run(c.name, func(t *testing.T) {
			if got := Cap(c.a, c.b); got != c.want {
				t.Errorf("Cap(%+v, %+v) = %+v, want %+v", c.a, c.b, got, c.want)
			}
			if got := Cap(c.b, c.a); got != c.want {
				t.Errorf("Cap(%+v, %+v) = %+v, want %+v", c.b, c.a, got, c.want)
			}
		})
	}
}

// smallRects has rectangles with all small numbers; sizes below 0 too.
func smallRects() []api.Rect {
	var all []api.Rect
	for x := -1; x <= 2; x++ {
		for y := -2; y <= 1; y++ {
			for w := -1; w <= 3; w++ {
				for h := -1; h <= 3; h++ {
					all = append(all, rect(x, y, w, h))
				}
			}
		}
	}
	return all
}

// has is the document's sentence of the places of a rectangle.
func has(r api.Rect, x, y int) bool {
	return x >= r.X && x < r.X+r.W && y >= r.Y && y < r.Y+r.H
}

// around is the smallest rectangle around all places that are held; all 0 for none.
func around(from, to int, held func(x, y int) bool) api.Rect {
	var out api.Rect
	for y := from; y < to; y++ {
		for x := from; x < to; x++ {
			if !held(x, y) {
				continue
			}
			if out.W == 0 {
				out = rect(x, y, 1, 1)
				continue
			}
			left, right := min(out.X, x), max(out.X+out.W, x+1)
			out = rect(left, out.Y, right-left, y+1-out.Y)
		}
	}
	return out
}

func TestCapOfAllPlaces(t *testing.T) {
	all := smallRects()
	for _, a := range all {
		for _, b := range all {
			want := around(-3, 6, func(x, y int) bool { return has(a, x, y) && has(b, x, y) })
			if got := Cap(a, b); got != want {
				t.Fatalf("Cap(%+v, %+v) = %+v, want %+v", a, b, got, want)
			}
		}
	}
}

func TestInset(t *testing.T) {
	for _, c := range []struct {
		name string
		r    api.Rect
		n    int
		want api.Rect
	}{
		{"by 1", rect(3, 4, 10, 6), 1, rect(4, 5, 8, 4)},
		{"by 0", rect(3, 4, 10, 6), 0, rect(3, 4, 10, 6)},
		{"below 0", rect(3, 4, 10, 6), -1, rect(3, 4, 10, 6)},
		{"far below 0", rect(3, 4, 10, 6), math.MinInt, rect(3, 4, 10, 6)},
		{"at X and Y below 0", rect(-5, -6, 10, 6), 2, rect(-3, -4, 6, 2)},
		{"an even side, one below its half", rect(0, 0, 10, 20), 4, rect(4, 4, 2, 12)},
		{"an even side, its half", rect(0, 0, 10, 20), 5, rect(5, 5, 0, 10)},
		{"an even side, one above its half", rect(0, 0, 10, 20), 6, rect(5, 6, 0, 8)},
		{"an odd side, one below its half", rect(0, 0, 11, 20), 4, rect(4, 4, 3, 12)},
		{"an odd side, its half", rect(0, 0, 11, 20), 5, rect(5, 5, 1, 10)},
		{"an odd side, one above its half", rect(0, 0, 11, 20), 6, rect(5, 6, 0, 8)},
		{"an even height, one below its half", rect(0, 0, 20, 10), 4, rect(4, 4, 12, 2)},
		{"an even height, its half", rect(0, 0, 20, 10), 5, rect(5, 5, 10, 0)},
		{"an even height, one above its half", rect(0, 0, 20, 10), 6, rect(6, 5, 8, 0)},
		{"an odd height, its half", rect(0, 0, 20, 11), 5, rect(5, 5, 10, 1)},
		{"an odd height, one above its half", rect(0, 0, 20, 11), 6, rect(6, 5, 8, 0)},
		{"both sides", rect(1, 1, 3, 4), 50, rect(2, 3, 0, 0)},
		{"one place", rect(7, 8, 1, 1), 1, rect(7, 8, 0, 0)},
		{"nothing", rect(7, 8, 0, 0), 1, rect(7, 8, 0, 0)},
		{"sides below 0", rect(7, 8, -4, -5), 1, rect(7, 8, 0, 0)},

		{"the greatest one", rect(100000, -100000, 100000, 100000), 1, rect(100001, -99999, 99998, 99998)},
		{"one beyond the bounds", rect(100001, -100001, 100001, 100001), 1, rect(100001, -99999, 99998, 99998)},
		{"numbers beyond all bounds", rect(math.MaxInt, math.MinInt, math.MaxInt, math.MinInt), 1, rect(100001, -100000, 99998, 0)},
		{"the other way round", rect(math.MinInt, math.MaxInt, math.MinInt, math.MaxInt), 1, rect(-100000, 100001, 0, 99998)},
		{"n far above", rect(1, 2, 100000, 99999), math.MaxInt, rect(50001, 50001, 0, 0)},
		{"all of it", rect(math.MaxInt, math.MaxInt, math.MaxInt, math.MaxInt), math.MaxInt, rect(150000, 150000, 0, 0)},
		{"without n", rect(math.MinInt, math.MinInt, math.MaxInt, math.MaxInt), 0, rect(-100000, -100000, 100000, 100000)},
		{"half of the greatest", rect(0, 0, math.MaxInt, 100000), 49999, rect(49999, 49999, 2, 2)},
	} {
		t.Run(c.name, func(t *testing.T) {
			if got := Inset(c.r, c.n); got != c.want {
				t.Errorf("Inset(%+v, %d) = %+v, want %+v", c.r, c.n, got, c.want)
			}
		})
	}
}

// insetSide is the document's sentence, of one side: where it begins and how long it is.
func insetSide(from, long, n int) (int, int) {
	a := n
	if a > long/2 {
		a = long / 2
	}
	if 2*n >= long {
		return from + a, 0
	}
	return from + a, long - 2*a
}

func TestInsetOfAllSides(t *testing.T) {
	for w := range 14 {
		for h := range 14 {
			for n := range 9 {
				var want api.Rect
				want.X, want.W = insetSide(-3, w, n)
				want.Y, want.H = insetSide(2, h, n)
				if got := Inset(rect(-3, 2, w, h), n); got != want {
					t.Fatalf("Inset(-3 2 %d %d, %d) = %+v, want %+v", w, h, n, got, want)
				}
			}
		}
	}
}

func TestHolds(t *testing.T) {
	for _, r := range smallRects() {
		for x := -3; x < 7; x++ {
			for y := -3; y < 7; y++ {
				if got, want := Holds(r, x, y), has(r, x, y); got != want {
					t.Fatalf("Holds(%+v, %d, %d) = %v", r, x, y, got)
				}
			}
		}
	}
	all := rect(math.MinInt, math.MinInt, math.MaxInt, math.MaxInt)
	far := rect(math.MaxInt, math.MaxInt, math.MaxInt, math.MaxInt)
	for _, c := range []struct {
		name string
		r    api.Rect
		x, y int
		want bool
	}{
		{"X and Y below all bounds", all, -100000, -100000, true},
		{"x ahead of them", all, -100001, -100000, false},
		{"y ahead of them", all, -100000, -100001, false},
		{"their end", all, -1, -1, true},
		{"x behind it", all, 0, -1, false},
		{"y behind it", all, -1, 0, false},
		{"X and Y above all bounds", far, 100000, 100000, true},
		{"x ahead of those", far, 99999, 100000, false},
		{"y ahead of those", far, 100000, 99999, false},
		{"W and H above all bounds", far, 199999, 199999, true},
		{"x behind those", far, 200000, 199999, false},
		{"y behind those", far, 199999, 200000, false},
		{"W below 0", rect(0, 0, math.MinInt, 5), 0, 0, false},
		{"H below 0", rect(0, 0, 5, math.MinInt), 0, 0, false},
		{"x above all bounds", far, math.MaxInt, 100000, false},
		{"y above all bounds", far, 100000, math.MaxInt, false},
		{"x below all bounds", all, math.MinInt, -5, false},
		{"y below all bounds", all, -5, math.MinInt, false},
	} {
		t.Run(c.name, func(t *testing.T) {
			if got := Holds(c.r, c.x, c.y); got != c.want {
				t.Errorf("Holds(%+v, %d, %d) = %v", c.r, c.x, c.y, got)
			}
		})
	}
}
