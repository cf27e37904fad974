package canvas

import (
	"math/rand"
	"testing"

	"pane/api"
)

// A second reading of chapter 7: cells by their places, what is written as a list of places, and Fill as so many Puts.

type place struct{ x, y int }

type reading struct {
	w, h  int
	cells map[place]api.Cell
}

func newReading(w, h int) *reading {
	d := &reading{w: w, h: h, cells: map[place]api.Cell{}}
	for x := range w {
		for y := range h {
			d.cells[place{x, y}] = api.Cell{Text: " "}
		}
	}
	return d
}

func between(n, low, high int) int {
	if n < low {
		return low
	}
	if n > high {
		return high
	}
	return n
}

// has tells whether a rectangle, clamped, has a place.
func has(r api.Rect, p place) bool {
	left, top := between(r.X, -100000, 100000), between(r.Y, -100000, 100000)
	wide, high := between(r.W, 0, 100000), between(r.H, 0, 100000)
	return left <= p.x && p.x < left+wide && top <= p.y && p.y < top+high
}

func lookOf(s api.Style) api.Style {
	if s.Fg != between(s.Fg, 0, 8) {
		s.Fg = 0
	}
	if s.Bg != between(s.Bg, 0, 8) {
		s.Bg = 0
	}
	if s.Bold != 1 {
		s.Bold = 0
	}
	return s
}

func (d *reading) put(x, y int, g api.Cluster, st api.Style, clip api.Rect) {
	if g.W != 1 && g.W != 2 {
		return
	}
	meant := []place{{x, y}, {x + 1, y}}[:g.W]
	written := map[place]bool{}
	for _, p := range meant {
		if _, onScreen := d.cells[p]; onScreen && has(clip, p) {
			written[p] = true
		}
	}
	for p := range written {
		other := p
		switch d.cells[p].Part {
		case 1:
			other.x++
		case 2:
			other.x--
		}
		if !written[other] {
			d.cells[other] = api.Cell{Text: " ", Style: d.cells[other].Style}
		}
	}
	for p := range written {
		d.cells[p] = api.Cell{Text: " ", Style: lookOf(st)}
	}
	if len(written) < len(meant) {
		return
	}
	d.cells[meant[0]] = api.Cell{Text: g.Text, Style: lookOf(st), Part: g.W - 1}
	if g.W == 2 {
		d.cells[meant[1]] = api.Cell{Style: lookOf(st), Part: 2}
	}
}

func (d *reading) fill(r api.Rect, st api.Style, clip api.Rect) {
	for y := range d.h {
		for x := range d.w {
			if has(r, place{x, y}) && has(clip, place{x, y}) {
				d.put(x, y, api.Cluster{Text: " ", W: 1}, st, clip)
			}
		}
	}
}

func (d *reading) list() []api.Cell {
	var list []api.Cell
	for y := range d.h {
		for x := range d.w {
			list = append(list, d.cells[place{x, y}])
		}
	}
	return list
}

// order is one call, of a canvas or of a reading.
type order struct {
	filled bool
	r      api.Rect // where it fills; else X and Y are the place
	g      api.Cluster
	st     api.Style
	clip   api.Rect
}

func (o order) paint(c *Canvas) {
	if o.filled {
		c.Fill(o.r, o.st, o.clip)
	} else {
		c.Put(o.r.X, o.r.Y, o.g, o.st, o.clip)
	}
}

func (o order) read(d *reading) {
	if o.filled {
		d.fill(o.r, o.st, o.clip)
	} else {
		d.put(o.r.X, o.r.Y, o.g, o.st, o.clip)
	}
}

// checkOrders holds a canvas and a reading against each other behind every call.
func checkOrders(t testing.TB, w, h int, orders []order) {
	t.Helper()
	c := made(t, w, h)
	d := newReading(w, h)
	for i, o := range orders {
		o.paint(c)
		o.read(d)
		got, want := c.Cells(), d.list()
		if len(got) != len(want) {
			t.Fatalf("on %d, %d behind %#v: %d cells, want %d", w, h, orders[:i+1], len(got), len(want))
		}
		for k := range want {
			if got[k] != want[k] {
				t.Fatalf("on %d, %d behind %#v: cell %d is %#v, want %#v", w, h, orders[:i+1], k, got[k], want[k])
			}
		}
	}
}

// shortOrders are all calls on a row of four: each cluster and each stretch at each place, in each of these clips.
func shortOrders(clips []api.Rect) []order {
	var list []order
	for _, clip := range clips {
		for x := -1; x <= 4; x++ {
			list = append(list, order{r: rect(x, 0, 0, 0), g: api.Cluster{Text: "a", W: 1}, clip: clip})
			list = append(list, order{r: rect(x, 0, 0, 0), g: api.Cluster{Text: "水", W: 2}, clip: clip})
			for w := 1; w <= 3; w++ {
				list = append(list, order{filled: true, r: rect(x, 0, w, 1), clip: clip})
			}
		}
	}
	return list
}

// checkAllOrders goes through all lists of so many calls; each call has a colour of its own, so that what stays can be told.
func checkAllOrders(t *testing.T, calls []order, n int, begun []order) {
	if n == 0 {
		checkOrders(t, 4, 1, begun)
		return
	}
	for _, o := range calls {
		o.st = api.Style{Fg: n, Bg: 8 - n, Bold: n % 2}
		checkAllOrders(t, calls, n-1, append(begun[:len(begun):len(begun)], o))
	}
}

func TestAllShortLists(t *testing.T) {
	checkAllOrders(t, shortOrders([]api.Rect{all}), 3, nil)
	checkAllOrders(t, shortOrders([]api.Rect{all, rect(1, 0, 2, 1), rect(2, 0, 1, 1), rect(0, 0, 0, 1)}), 2, nil)
}

// chooser makes calls at random, always the same ones.
type chooser struct{ *rand.Rand }

func (c chooser) among(list ...int) int { return list[c.Intn(len(list))] }

// number is mostly near a screen; now and then it is at a bound or beyond it.
func (c chooser) number(side int) int {
	if c.Intn(12) > 0 {
		return c.Intn(side+5) - 2
	}
	return c.among(least, least+1, -1<<32, -100001, -100000, -99999, -1, 0, 399, 400, 401, 99999, 100000, 100001, 1<<32, greatest-1, greatest)
}

func (c chooser) rect(w, h int) api.Rect {
	return rect(c.number(w), c.number(h), c.number(w), c.number(h))
}

func (c chooser) clip(w, h int) api.Rect {
	if c.Intn(3) > 0 {
		return all
	}
	return c.rect(w, h)
}

func (c chooser) style() api.Style {
	if c.Intn(4) > 0 {
		return api.Style{Fg: c.Intn(9), Bg: c.Intn(9), Bold: c.Intn(2)}
	}
	return api.Style{Fg: c.among(least, -1, 0, 1, 8, 9, greatest), Bg: c.among(least, -1, 0, 1, 8, 9, greatest), Bold: c.among(least, -1, 0, 1, 2, greatest)}
}

func (c chooser) cluster() api.Cluster {
	texts := []string{"a", "水", "", " ", "e\u0301", "\xff"}
	return api.Cluster{Text: texts[c.Intn(len(texts))], W: c.among(1, 1, 1, 1, 2, 2, 2, 2, 2, 2, 0, 3, -1, least, greatest)}
}

func (c chooser) order(w, h int) order {
	return order{filled: c.Intn(4) == 0, r: c.rect(w, h), g: c.cluster(), st: c.style(), clip: c.clip(w, h)}
}

func TestOrdersAtRandom(t *testing.T) {
	c := chooser{rand.New(rand.NewSource(7))}
	for range 4000 {
		w, h := 1+c.Intn(7), 1+c.Intn(4)
		var orders []order
		for range 30 {
			orders = append(orders, c.order(w, h))
		}
		checkOrders(t, w, h, orders)
	}
}

func TestOrdersOnTheGreatestScreen(t *testing.T) {
	orders := []order{
		{filled: true, r: rect(-1, -1, greatest, greatest), st: fg(1), clip: rect(-1, -1, greatest, greatest)},
		{r: rect(399, 399, 0, 0), g: api.Cluster{Text: "水", W: 2}, st: fg(2), clip: all},
		{r: rect(398, 399, 0, 0), g: api.Cluster{Text: "水", W: 2}, st: fg(3), clip: all},
		{r: rect(398, 0, 0, 0), g: api.Cluster{Text: "水", W: 2}, st: fg(4), clip: all},
		{filled: true, r: rect(399, 0, 1, 400), st: fg(5), clip: all},
		{filled: true, r: rect(0, 399, 399, 1), st: fg(6), clip: all},
	}
	checkOrders(t, 400, 400, orders)
}
