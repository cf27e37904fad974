package paint

import (
	"math/rand"
	"slices"
	"strconv"
	"strings"
	"testing"

	"pane/api"
	"pane/box"
	"pane/flow"
	"pane/glyph"
	"pane/tree"
)

// A second reading of chapter 8: a node's look is sought from it upward, what it paints is told place by place of its rectangle, and the screen is cells by their places.

type spot struct{ x, y int }

type reading struct {
	nodes  []api.Node
	places []api.Place
	cells  map[spot]api.Cell
	cut    int // how many places a clip has kept from being painted
	halved int // how many halves of wide cells became blanks
}

var kindWords = []string{"row", "col", "stack", "box", "scroll", "text", "gap"}

// look asks the node itself, then the nodes around it, the nearest one first.
func (d *reading) look(i int) api.Style {
	var st api.Style
	for ; i >= 0; i = d.nodes[i].Up {
		n := d.nodes[i]
		if st.Fg == 0 {
			st.Fg = n.Fg
		}
		if st.Bg == 0 {
			st.Bg = n.Bg
		}
		if n.Bold == 1 {
			st.Bold = 1
		}
	}
	return st
}

// put writes a cluster that has all its places on the screen and in the clip, or none.
func (d *reading) put(i int, at spot, text string, w int) {
	clip := d.places[i].Clip
	if at.x < clip.X || at.x+w > clip.X+clip.W || at.y < clip.Y || at.y >= clip.Y+clip.H {
		d.cut++
		return
	}
	d.free(at)
	if w == 2 {
		d.free(spot{at.x + 1, at.y})
		d.cells[spot{at.x + 1, at.y}] = api.Cell{Style: d.look(i), Part: 2}
	}
	d.cells[at] = api.Cell{Text: text, Style: d.look(i), Part: w - 1}
}

// free makes blanks of both halves of the wide cell that a place is of.
func (d *reading) free(at spot) {
	halves := []spot{at}
	switch d.cells[at].Part {
	case 1:
		halves = append(halves, spot{at.x + 1, at.y})
	case 2:
		halves = append(halves, spot{at.x - 1, at.y})
	}
	d.halved += len(halves) - 1
	for _, h := range halves {
		d.cells[h] = api.Cell{Text: " ", Style: d.cells[h].Style}
	}
}

func spots(r api.Rect) []spot {
	var list []spot
	for y := r.Y; y < r.Y+r.H; y++ {
		for x := r.X; x < r.X+r.W; x++ {
			list = append(list, spot{x, y})
		}
	}
	return list
}

// borderSign is empty within the border.
func borderSign(r api.Rect, at spot) string {
	left, right := at.x == r.X, at.x == r.X+r.W-1
	above, below := at.y == r.Y, at.y == r.Y+r.H-1
	switch {
	case left && above:
		return "┌"
	case right && above:
		return "┐"
	case left && below:
		return "└"
	case right && below:
		return "┘"
	case above || below:
		return "─"
	case left || right:
		return "│"
	}
	return ""
}

func (d *reading) paint(i int) {
	n, r := d.nodes[i], d.places[i].Rect
	kind := kindWords[n.Kind]
	for _, at := range spots(r) {
		if n.Bg != 0 {
			d.put(i, at, " ", 1)
		}
	}
	for _, at := range spots(r) {
		if kind == "box" && n.Border != 0 && r.W > 1 && r.H > 1 && borderSign(r, at) != "" {
			d.put(i, at, borderSign(r, at), 1)
		}
	}
	if kind == "text" && r.W > 0 {
		d.paintText(i)
	}
}

func (d *reading) paintText(i int) {
	n, r := d.nodes[i], d.places[i].Rect
	var lines []string
	if n.Wrap == 0 {
		for _, paragraph := range strings.Split(n.Text, "\n") {
			lines = append(lines, flow.Cut(paragraph, r.W))
		}
	} else {
		for _, line := range flow.Lines(n.Text, r.W) {
			lines = append(lines, line.Text)
		}
	}
	for y := 0; y < r.H && y < len(lines); y++ {
		left := r.W - glyph.Columns(lines[y])
		ahead := []int{0, left / 2, left}[n.Align]
		for x := range r.W {
			d.put(i, spot{r.X + x, r.Y + y}, " ", 1)
		}
		x := r.X + ahead
		for _, g := range glyph.Clusters(lines[y]) {
			d.put(i, spot{x, r.Y + y}, g.Text, g.W)
			x += g.W
		}
	}
}

func read(text string, w, h int, scrolls []api.Scroll) (*reading, []api.Cell) {
	d := &reading{cells: map[spot]api.Cell{}}
	d.nodes, _, _ = tree.Parse(text)
	d.places, _, _ = box.Layout(text, w, h, scrolls)
	screen := spots(api.Rect{W: w, H: h})
	for _, at := range screen {
		d.cells[at] = api.Cell{Text: " "}
	}
	for i := range d.nodes {
		d.paint(i)
	}
	var list []api.Cell
	for _, at := range screen {
		list = append(list, d.cells[at])
	}
	return d, list
}

func holdAgainstDocument(t *testing.T, text string, w, h int, scrolls []api.Scroll) *reading {
	t.Helper()
	d, want := read(text, w, h, scrolls)
	if got := framed(t, text, w, h, scrolls); !slices.Equal(got, want) {
		t.Fatalf("Frame(%q, %d, %d, %v) =\n%+v, want\n%+v", text, w, h, scrolls, got, want)
	}
	return d
}

// planter writes trees at random; all of them are right.
type planter struct {
	*rand.Rand
	ids int // how many have been given out
}

func (p *planter) tree(depth int) string {
	kind := p.Intn(7)
	if depth == 0 || depth < 4 && kind > 4 && p.Intn(2) == 0 {
		kind = p.Intn(5)
	} else if depth > 4 {
		kind = 5 + p.Intn(2)
	}
	word := kindWords[kind]
	out := word + p.attributes(word)
	switch word {
	case "gap":
		return out
	case "text":
		return out + p.string()
	case "box", "scroll":
		return out + "[" + p.tree(depth+1) + "]"
	}
	var kids []string
	for range p.Intn(4) {
		kids = append(kids, p.tree(depth+1))
	}
	return out + "[" + strings.Join(kids, ",") + "]"
}

func (p *planter) attributes(word string) string {
	var list []string
	add := func(often int, name string, to int) {
		if p.Intn(10) < often {
			list = append(list, name+"="+strconv.Itoa(p.Intn(to+1)))
		}
	}
	if word == "scroll" && p.Intn(5) > 0 {
		p.ids++
		list = append(list, "id="+strconv.Itoa(p.ids))
	}
	add(1, "min", 7)
	add(2, "max", 7)
	add(4, "weight", 2)
	add(3, "fg", 8)
	add(2, "bg", 8)
	add(2, "bold", 1)
	switch word {
	case "row", "col":
		add(3, "gap", 3)
	case "box":
		add(2, "pad", 2)
		add(3, "border", 1)
	case "text":
		add(4, "wrap", 1)
		add(5, "align", 2)
	}
	if len(list) == 0 {
		return ""
	}
	return "{" + strings.Join(list, ";") + "}"
}

func (p *planter) string() string {
	out := `"`
	for p.Intn(12) > 0 {
		out += []string{"a", "b", "cd", " ", " ", `\n`, "水", "火", "\u0301", "\xff"}[p.Intn(10)]
	}
	return out + `"`
}

func (p *planter) scrolls() []api.Scroll {
	var list []api.Scroll
	for range p.Intn(3*p.ids + 2) {
		list = append(list, api.Scroll{Id: p.Intn(p.ids + 2), Off: p.Intn(9) - 1})
	}
	return list
}

func TestDocumentTrees(t *testing.T) {
	r := rand.New(rand.NewSource(9))
	cut, halved := 0, 0
	for range 12000 {
		p := &planter{Rand: r}
		text := p.tree(0)
		if nodes, _, _ := tree.Parse(text); nodes == nil {
			continue // too many nodes
		}
		d := holdAgainstDocument(t, text, 1+p.Intn(16), 1+p.Intn(9), p.scrolls())
		cut += d.cut
		halved += d.halved
	}
	if cut < 2000 || halved < 1000 {
		t.Errorf("only %d places are cut by a clip, only %d wide cells halved", cut, halved)
	}
}

// TestDocumentSizes tries one tree with all that is painted at all small screens.
func TestDocumentSizes(t *testing.T) {
	text := `stack{fg=1}[text{wrap=0;align=1}"水 水水\n水水水水 ab",row{gap=1}[col{weight=0;max=6;bold=1}[text{weight=0;align=2}"ab 水 ef",box{weight=0;bg=2}[text"g h"]],scroll{id=1;bg=3}[stack[box{pad=1;fg=4}[text{align=1}"i 水k l\n\nm"],text{wrap=0;bg=5}"no\np"]],gap{min=1}]]`
	for w := 1; w <= 20; w++ {
		for h := 1; h <= 12; h++ {
			for off := range 4 {
				holdAgainstDocument(t, text, w, h, to(1, off*off))
			}
		}
	}
}

// TestDocumentTexts tries all texts of up to three signs, with each align and wrap, at all small sizes, over something that shows where they paint.
func TestDocumentTexts(t *testing.T) {
	texts := []string{""}
	for from := 0; from < 1+5+5*5; from++ {
		for _, sign := range []string{"a", " ", `\n`, "水", "\u0301"} {
			texts = append(texts, texts[from]+sign)
		}
	}
	for _, s := range texts {
		for n := range 6 {
			attributes := "{fg=2;align=" + strconv.Itoa(n%3) + ";wrap=" + strconv.Itoa(n/3) + "}"
			text := `stack[text{fg=1}"水x水x\n水x水x\n水x水x",row[gap{max=1},text` + attributes + `"` + s + `",gap{max=1}]]`
			for w := 1; w <= 7; w++ {
				for h := 1; h <= 3; h++ {
					holdAgainstDocument(t, text, w, h, nil)
				}
			}
		}
	}
}
