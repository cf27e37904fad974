package box

import (
	"math/rand"
	"slices"
	"strconv"
	"strings"
	"testing"

	"pane/api"
	"pane/flow"
	"pane/glyph"
	"pane/share"
	"pane/tree"
)

// A second reading of chapter 5: what is needed is asked from the first node down each time, and what can be seen of a node is a set of places of the screen.

type reading struct {
	nodes   []api.Node
	w, h    int
	scrolls []api.Scroll
	rects   []api.Rect
	offs    []int
	rooms   []int
	seen    []map[[2]int]bool // of each node the places of its clip
}

var kindWords = []string{"row", "col", "stack", "box", "scroll", "text", "gap"}

func (d *reading) kind(i int) string { return kindWords[d.nodes[i].Kind] }

func bound(n int) int {
	if n > 100000 {
		return 100000
	}
	return n
}

func (d *reading) frame(i int) int { return d.nodes[i].Border + d.nodes[i].Pad }

func (d *reading) width(i int) int {
	n := d.nodes[i]
	need := 0
	switch d.kind(i) {
	case "text":
		for _, paragraph := range strings.Split(n.Text, "\n") {
			need = max(need, glyph.Columns(paragraph))
		}
	case "row":
		for k, kid := range n.Kids {
			if k > 0 {
				need += n.Gap
			}
			need += d.width(kid)
		}
	case "col", "stack", "scroll":
		for _, kid := range n.Kids {
			need = max(need, d.width(kid))
		}
	case "box":
		need = d.width(n.Kids[0]) + d.frame(i) + d.frame(i)
	}
	return bound(need)
}

func (d *reading) height(i, w int) int {
	n := d.nodes[i]
	need := 0
	switch d.kind(i) {
	case "text":
		if w >= 1 && n.Wrap == 1 {
			need = len(flow.Lines(n.Text, w))
		} else if w >= 1 {
			need = len(strings.Split(n.Text, "\n"))
		}
	case "row":
		for k, wide := range share.Split(w, n.Gap, d.wants(i, w)) {
			need = max(need, d.height(n.Kids[k], wide))
		}
	case "col":
		for k, kid := range n.Kids {
			if k > 0 {
				need += n.Gap
			}
			need += d.height(kid, w)
		}
	case "stack", "scroll":
		for _, kid := range n.Kids {
			need = max(need, d.height(kid, w))
		}
	case "box":
		need = d.height(n.Kids[0], max(w-d.frame(i)-d.frame(i), 0)) + d.frame(i) + d.frame(i)
	}
	return bound(need)
}

// wants is of the kids of a row, or of a col that is w wide.
func (d *reading) wants(i, w int) []api.Want {
	var list []api.Want
	for _, kid := range d.nodes[i].Kids {
		n := d.nodes[kid]
		want := api.Want{Min: n.Min, Max: n.Max, Weight: n.Weight}
		if n.Weight == 0 {
			need := d.width(kid)
			if d.kind(i) == "col" {
				need = d.height(kid, w)
			}
			if n.Max != -1 && n.Max < need {
				need = n.Max
			}
			if need > n.Min {
				want.Min = need
			}
		}
		list = append(list, want)
	}
	return list
}

func (d *reading) place(i int, r api.Rect) {
	d.rects[i] = r
	d.see(i)
	n := d.nodes[i]
	switch d.kind(i) {
	case "row":
		wants := d.wants(i, r.W)
		for k, kid := range n.Kids {
			d.place(kid, rect(r.X+share.Offsets(r.W, n.Gap, wants)[k], r.Y, share.Split(r.W, n.Gap, wants)[k], r.H))
		}
	case "col":
		wants := d.wants(i, r.W)
		for k, kid := range n.Kids {
			d.place(kid, rect(r.X, r.Y+share.Offsets(r.H, n.Gap, wants)[k], r.W, share.Split(r.H, n.Gap, wants)[k]))
		}
	case "stack":
		for _, kid := range n.Kids {
			d.place(kid, r)
		}
	case "box":
		var inner api.Rect
		inner.X, inner.W = insetSide(r.X, r.W, d.frame(i))
		inner.Y, inner.H = insetSide(r.Y, r.H, d.frame(i))
		d.place(n.Kids[0], inner)
	case "scroll":
		high := max(r.H, d.height(n.Kids[0], r.W))
		off := 0
		for _, s := range d.scrolls {
			if s.Id == n.Id && n.Id != 0 {
				off = s.Off
			}
		}
		off = max(off, 0)
		d.rooms[i] = high - r.H
		d.offs[i] = min(off, d.rooms[i])
		d.place(n.Kids[0], rect(r.X, r.Y-d.offs[i], r.W, high))
	}
}

func (d *reading) see(i int) {
	d.seen[i] = map[[2]int]bool{}
	for x := range d.w {
		for y := range d.h {
			around := i == 0 || d.seen[d.nodes[i].Up][[2]int{x, y}]
			if around && has(d.rects[i], x, y) {
				d.seen[i][[2]int{x, y}] = true
			}
		}
	}
}

func read(text string, w, h int, scrolls []api.Scroll) *reading {
	nodes, _, _ := tree.Parse(text)
	d := &reading{nodes: nodes, w: w, h: h, scrolls: scrolls}
	d.rects, d.seen = make([]api.Rect, len(nodes)), make([]map[[2]int]bool, len(nodes))
	d.offs, d.rooms = make([]int, len(nodes)), make([]int, len(nodes))
	d.place(0, rect(0, 0, w, h))
	return d
}

func (d *reading) places() []api.Place {
	var list []api.Place
	for i := range d.nodes {
		clip := around(0, max(d.w, d.h), func(x, y int) bool { return d.seen[i][[2]int{x, y}] })
		list = append(list, api.Place{Rect: d.rects[i], Clip: clip, Off: d.offs[i], Room: d.rooms[i]})
	}
	return list
}

func (d *reading) hit(x, y int) (int, api.Errno) {
	if x < 0 || x > d.w-1 || y < 0 || y > d.h-1 {
		return 0, api.ErrRange
	}
	last := 0
	for i := range d.nodes {
		if d.seen[i][[2]int{x, y}] {
			last = i
		}
	}
	return last, api.OK
}

func holdAgainstDocument(t *testing.T, text string, w, h int, scrolls []api.Scroll, hits bool) *reading {
	t.Helper()
	d := read(text, w, h, scrolls)
	if got, errno, _ := Layout(text, w, h, scrolls); errno != api.OK || !slices.Equal(got, d.places()) {
		t.Fatalf("Layout(%q, %d, %d, %v) =\n%+v, %d, want\n%+v", text, w, h, scrolls, got, errno, d.places())
	}
	if width, height, errno, _ := Need(text, w); errno != api.OK || width != d.width(0) || height != d.height(0, w) {
		t.Fatalf("Need(%q, %d) = %d, %d, %d, want %d, %d", text, w, width, height, errno, d.width(0), d.height(0, w))
	}
	for x := -1; hits && x <= w; x++ {
		for y := -1; y <= h; y++ {
			want, wantErrno := d.hit(x, y)
			if got, errno, _ := Hit(text, w, h, scrolls, x, y); got != want || errno != wantErrno {
				t.Fatalf("Hit(%q, %d, %d, %v, %d, %d) = %d, %d, want %d, %d", text, w, h, scrolls, x, y, got, errno, want, wantErrno)
			}
		}
	}
	return d
}

// planter writes trees at random; all of them are right.
type planter struct {
	*rand.Rand
	ids int // how many have been given out
}

func (p *planter) tree(depth int) string {
	kind := p.Intn(7)
	if depth == 0 || depth < 4 && kind > 4 && p.Intn(2) == 0 {
		kind = p.Intn(5)
	} else if depth > 4 {
		kind = 5 + p.Intn(2)
	}
	word := kindWords[kind]
	out := word + p.attributes(word)
	switch word {
	case "gap":
		return out
	case "text":
		return out + p.string()
	case "box", "scroll":
		return out + "[" + p.tree(depth+1) + "]"
	}
	var kids []string
	for range p.Intn(4) {
		kids = append(kids, p.tree(depth+1))
	}
	return out + "[" + strings.Join(kids, ",") + "]"
}

func (p *planter) attributes(word string) string {
	var list []string
	add := func(often int, name string, to int) {
		if p.Intn(10) < often {
			list = append(list, name+"="+strconv.Itoa(p.Intn(to+1)))
		}
	}
	if word == "scroll" && p.Intn(5) > 0 {
		p.ids++
		list = append(list, "id="+strconv.Itoa(p.ids))
	}
	add(2, "min", 7)
	add(3, "max", 7)
	add(5, "weight", 2)
	switch word {
	case "row", "col":
		add(4, "gap", 3)
	case "box":
		add(3, "pad", 2)
		add(4, "border", 1)
	case "text":
		add(4, "wrap", 1)
	}
	if len(list) == 0 {
		return ""
	}
	return "{" + strings.Join(list, ";") + "}"
}

func (p *planter) string() string {
	out := `"`
	for p.Intn(9) > 0 {
		out += []string{"a", "b", "cd", " ", " ", `\n`, "水", "\u0301", "\xff"}[p.Intn(9)]
	}
	return out + `"`
}

func (p *planter) scrolls() []api.Scroll {
	var list []api.Scroll
	for range p.Intn(3*p.ids + 2) {
		list = append(list, api.Scroll{Id: p.Intn(p.ids + 2), Off: p.Intn(9) - 1})
	}
	return list
}

func TestDocumentTrees(t *testing.T) {
	r := rand.New(rand.NewSource(5))
	moved, empty := 0, 0
	for n := range 4000 {
		p := &planter{Rand: r}
		text := p.tree(0)
		if nodes, _, _ := tree.Parse(text); nodes == nil {
			continue // too many nodes
		}
		d := holdAgainstDocument(t, text, 1+p.Intn(14), 1+p.Intn(9), p.scrolls(), n%10 == 0)
		for i, place := range d.places() {
			if place.Off > 0 {
				moved++
			}
			if i > 0 && place.Clip.W == 0 {
				empty++
			}
		}
	}
	if moved < 200 || empty < 200 {
		t.Errorf("only %d scrolls are moved, only %d clips empty", moved, empty)
	}
}

// TestDocumentSizes tries one tree with all that hangs on sizes at all small screens.
func TestDocumentSizes(t *testing.T) {
	text := `row{gap=1}[col{weight=0;max=6}[text{weight=0}"ab cd ef",box{weight=0}[text"g h"]],scroll{id=1}[stack[box{pad=1}[text"i jk l\n\nm"],text{wrap=0}"no\np"]],gap{min=1}]`
	for w := 1; w <= 20; w++ {
		for h := 1; h <= 12; h++ {
			for off := range 4 {
				holdAgainstDocument(t, text, w, h, []api.Scroll{{Id: 1, Off: off * off}}, false)
			}
		}
	}
}

func TestDocumentNeeds(t *testing.T) {
	r := rand.New(rand.NewSource(6))
	for range 3000 {
		p := &planter{Rand: r}
		text := p.tree(0)
		nodes, _, _ := tree.Parse(text)
		if nodes == nil {
			continue
		}
		d := &reading{nodes: nodes}
		for w := range 20 {
			width, height, errno, place := Need(text, w)
			if width != d.width(0) || height != d.height(0, w) || errno != api.OK || place != 0 {
				t.Fatalf("Need(%q, %d) = %d, %d, %d at %d, want %d, %d", text, w, width, height, errno, place, d.width(0), d.height(0, w))
			}
		}
	}
}
