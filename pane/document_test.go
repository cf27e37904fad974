package pane

import (
	"math"
	"math/big"
	"math/rand"
	"slices"
	"strconv"
	"strings"
	"testing"

	"pane/api"
	"pane/box"
	"pane/differ"
	"pane/paint"
	"pane/tree"
)

// reading is a second reading of chapter 11: what is scrolled is a list of all steps, of which the last one of an id counts.
type reading struct {
	w, h  int
	text  string
	steps []api.Scroll
}

func (d *reading) resize(w, h int) api.Errno {
	if min(w, h) < 1 || max(w, h) > 400 {
		return api.ErrRange
	}
	d.w, d.h = w, h
	return api.OK
}

func (d *reading) set(text string) (api.Errno, int) {
	if _, errno, place := tree.Parse(text); errno != api.OK {
		return errno, place
	}
	d.text = text
	var kept []api.Scroll
	for _, step := range d.steps {
		if _, there := d.find(step.Id); there {
			kept = append(kept, step)
		}
	}
	d.steps = kept
	return api.OK, 0
}

// find tells where the scroll of an id stands, and whether there is one.
func (d *reading) find(id int) (api.Place, bool) {
	nodes, _, _ := tree.Parse(d.text)
	places, _, _ := box.Layout(d.text, d.w, d.h, d.steps)
	for i, node := range nodes {
		if node.Kind == 4 && node.Id != 0 && node.Id == id {
			return places[i], true
		}
	}
	return api.Place{}, false
}

func (d *reading) offset(id int) (int, int, api.Errno) {
	place, there := d.find(id)
	if !there {
		return 0, 0, api.ErrNone
	}
	return place.Off, place.Room, api.OK
}

func (d *reading) scroll(id, by int) api.Errno {
	place, there := d.find(id)
	if !there {
		return api.ErrNone
	}
	sum := new(big.Int).Add(big.NewInt(int64(place.Off)), big.NewInt(int64(by)))
	if sum.Sign() < 0 {
		sum = big.NewInt(0)
	}
	if room := big.NewInt(int64(place.Room)); sum.Cmp(room) > 0 {
		sum = room
	}
	d.steps = append(d.steps, api.Scroll{Id: id, Off: int(sum.Int64())})
	return api.OK
}

// last tells how far the scroll of an id was scrolled, whatever its Room is now.
func (d *reading) last(id int) int {
	off := 0
	for _, step := range d.steps {
		if step.Id == id {
			off = step.Off
		}
	}
	return off
}

func (d *reading) hit(x, y int) (int, api.Errno) {
	node, errno, _ := box.Hit(d.text, d.w, d.h, d.steps, x, y)
	return node, errno
}

// player makes calls at random, always the same ones, of a session and of its second reading.
type player struct {
	*rand.Rand
	*viewer
	reading
	spare   []int    // ids that the tree being made has not given out
	earlier []string // trees
	seen    tally
}

// tally counts what has come up, so that nothing is missed for want of luck.
type tally struct {
	kept, forgotten, bounded, refused, empty, changed, whole int
}

const manyIds = 5

func (p *player) tree() string {
	p.spare = p.Perm(manyIds)
	return p.node(0)
}

func (p *player) node(depth int) string {
	kinds := []string{"scroll", "row", "col", "stack", "box", "scroll", "scroll", "text", "text", "gap"}
	kind := kinds[p.Intn(len(kinds))]
	switch {
	case depth == 0 && p.Intn(8) > 0:
		kind = kinds[p.Intn(3)]
	case depth == 1 && p.Intn(2) > 0:
		kind = "scroll"
	case depth > 3:
		kind = kinds[7+p.Intn(3)]
	}
	out := kind + p.attributes(kind)
	switch kind {
	case "gap":
		return out
	case "text":
		return out + p.string()
	case "scroll":
		if p.Intn(3) > 0 { // something that needs rows
			return out + "[text" + p.attributes("text") + `"` + strings.Repeat(`a b\n`, p.Intn(14)) + p.string()[1:] + "]"
		}
		fallthrough
	case "box":
		return out + "[" + p.node(depth+1) + "]"
	}
	var kids []string
	for range p.Intn(5) {
		kids = append(kids, p.node(depth+1))
	}
	return out + "[" + strings.Join(kids, ",") + "]"
}

// attributes gives ids mostly to scrolls, sometimes to others.
func (p *player) attributes(kind string) string {
	var list []string
	if len(p.spare) > 0 && (kind == "scroll" && p.Intn(6) > 0 || p.Intn(6) == 0) {
		list = append(list, "id="+strconv.Itoa(1+p.spare[0]))
		p.spare = p.spare[1:]
	}
	add := func(often int, name string, to int) {
		if p.Intn(10) < often {
			list = append(list, name+"="+strconv.Itoa(p.Intn(to+1)))
		}
	}
	add(2, "max", 5)
	add(3, "weight", 2)
	add(2, "fg", 7)
	add(2, "bg", 7)
	add(2, "bold", 1)
	if kind == "text" {
		add(3, "wrap", 1)
		add(3, "align", 2)
	}
	if kind == "box" {
		add(6, "border", 0)
	}
	if len(list) == 0 {
		return ""
	}
	return "{" + strings.Join(list, ";") + "}"
}

func (p *player) string() string {
	signs := []string{"a", "b", "cd", " ", `\n`, `\n`, "\n", "水", "火", "\u0301", "\u200b", "\xff", "\x1b[2J", "\t", "😀", "é", `\"`, `\\`, "\u0085", "ｅ", "\x7f", "\xe6\xb0"}
	var b strings.Builder
	for p.Intn(14) > 0 {
		b.WriteString(signs[p.Intn(len(signs))])
	}
	return `"` + b.String() + `"`
}

func (p *player) number() int {
	return []int{math.MinInt, math.MinInt + 1, -100000, -3, -2, -1, -1, 0, 1, 1, 1, 2, 2, 3, 5, 100000, math.MaxInt - 1, math.MaxInt}[p.Intn(18)]
}

// id is mostly that of a scroll, if the tree has one.
func (p *player) id() int {
	nodes, _, _ := tree.Parse(p.reading.text)
	ids := []int{p.number(), p.Intn(manyIds + 1), 1 + p.Intn(manyIds)}
	for _, node := range nodes {
		if node.Kind == 4 {
			ids = append(ids, node.Id, node.Id, node.Id)
		}
	}
	return ids[p.Intn(len(ids))]
}

func (p *player) playSet(t *testing.T) {
	text := p.tree()
	if len(p.earlier) > 0 && p.Intn(3) == 0 {
		text = p.earlier[p.Intn(len(p.earlier))]
	}
	p.earlier = append(p.earlier, text)
	if p.Intn(6) == 0 {
		at := p.Intn(len(text))
		text = text[:at] + []string{"", "]", `"`, "gap", "9", "{", " "}[p.Intn(7)] + text[at+1:]
	}
	ahead := p.reading
	errno, place := p.Set(text)
	wantErrno, wantPlace := p.reading.set(text)
	if errno != wantErrno || place != wantPlace {
		t.Fatalf("Set(%q) = %d, %d, want %d, %d", text, errno, place, wantErrno, wantPlace)
	}
	if errno != api.OK {
		p.seen.refused++
	}
	p.seen.kept += len(p.reading.steps)
	p.seen.forgotten += len(ahead.steps) - len(p.reading.steps)
}

func (p *player) playResize(t *testing.T) {
	w, h := 1+p.Intn(9), 1+p.Intn(6)
	switch p.Intn(6) {
	case 0:
		w, h = p.reading.w, p.reading.h
	case 1:
		w = p.number()
	case 2:
		h = p.number()
	}
	if got, want := p.size(w, h), p.reading.resize(w, h); got != want {
		t.Fatalf("Resize(%d, %d) = %d, want %d", w, h, got, want)
	}
}

func (p *player) playScroll(t *testing.T) {
	id, by := p.id(), p.number()
	if got, want := p.Scroll(id, by), p.reading.scroll(id, by); got != want {
		t.Fatalf("Scroll(%d, %d) = %d, want %d", id, by, got, want)
	}
}

func (p *player) playRender(t *testing.T) {
	bytes := p.render(t)
	switch {
	case bytes == "":
		p.seen.empty++
	case strings.HasPrefix(bytes, clearing):
		p.seen.whole++
	default:
		p.seen.changed++
	}
}

// compare asks a session what can be asked.
func (p *player) compare(t *testing.T) {
	t.Helper()
	d := &p.reading
	want, errno, _ := paint.Frame(d.text, d.w, d.h, d.steps)
	if got := p.Screen(); errno != api.OK || !slices.Equal(got, want) {
		t.Fatalf("%q, %v: the screen is %s, want %s", d.text, d.steps, picture(got, d.w), picture(want, d.w))
	}
	if !differ.Sound(want, d.w) {
		t.Fatalf("%q, %v: the screen is not sound: %+v", d.text, d.steps, want)
	}
	for range 3 {
		id := p.id()
		off, room, errno := p.Offset(id)
		wantOff, wantRoom, wantErrno := d.offset(id)
		if off != wantOff || room != wantRoom || errno != wantErrno {
			t.Fatalf("%q, %v: Offset(%d) = %d, %d, %d, want %d, %d, %d", d.text, d.steps, id, off, room, errno, wantOff, wantRoom, wantErrno)
		}
		if errno == api.OK && off < d.last(id) {
			p.seen.bounded++
		}
	}
	for range 3 {
		x, y := p.Intn(d.w+2)-1, p.Intn(d.h+2)-1
		node, errno := p.Hit(x, y)
		if wantNode, wantErrno := d.hit(x, y); node != wantNode || errno != wantErrno {
			t.Fatalf("%q, %v: Hit(%d, %d) = %d, %d, want %d, %d", d.text, d.steps, x, y, node, errno, wantNode, wantErrno)
		}
	}
}

func TestSessionsAtRandom(t *testing.T) {
	r := rand.New(rand.NewSource(13))
	var seen tally
	for range 500 {
		w, h := 1+r.Intn(9), 1+r.Intn(6)
		p := &player{Rand: r, viewer: view(t, w, h), reading: reading{w: w, h: h, text: "gap"}, seen: seen}
		p.compare(t)
		for range 40 {
			switch n := r.Intn(20); {
			case n < 4:
				p.playSet(t)
			case n < 8:
				p.playResize(t)
			case n < 15:
				p.playScroll(t)
			default:
				p.playRender(t)
			}
			p.compare(t)
		}
		p.playRender(t)
		seen = p.seen
	}
	for i, n := range []int{seen.kept, seen.forgotten, seen.bounded, seen.refused, seen.empty, seen.changed, seen.whole} {
		if n < 300 {
			t.Errorf("count %d came up only %d times: %+v", i, n, seen)
		}
	}
}
