package box

import (
	"slices"

	"pane/api"
	"pane/share"
	"pane/tree"
)

// places tells where the nodes stand, by their numbers (B4).
func (m *measure) places(w, h int, scrolls []api.Scroll) []api.Place {
	screen := api.Rect{W: w, H: h}
	places := make([]api.Place, len(m.nodes))
	places[0] = api.Place{Rect: screen, Clip: screen}
	// A node stands ahead of its kids, so that each is placed when it is asked
	// for theirs.
	for i, node := range m.nodes {
		if node.Kind == tree.KindScroll {
			m.scroll(&places[i], node, scrolls)
		}
		for k, rect := range m.kidRects(node, places[i]) {
			places[node.Kids[k]] = api.Place{Rect: rect, Clip: Cap(rect, places[i].Clip)}
		}
	}
	return places
}

// scroll tells how far a scroll can go, and how far it has gone.
func (m *measure) scroll(place *api.Place, node api.Node, scrolls []api.Scroll) {
	place.Room = max(0, m.height(node.Kids[0], place.Rect.W)-place.Rect.H)
	place.Off = min(max(0, offset(node.Id, scrolls)), place.Room)
}

// offset tells what the scrolls say of an id; of 0 nothing, since that is no
// node's.
func offset(id int, scrolls []api.Scroll) int {
	if id == 0 {
		return 0
	}
	for _, s := range slices.Backward(scrolls) {
		if s.Id == id {
			return s.Off
		}
	}
	return 0
}

// kidRects tells the rectangles of a node's kids, in their order.
func (m *measure) kidRects(node api.Node, place api.Place) []api.Rect {
	inner := place.Rect
	switch node.Kind {
	case tree.KindRow:
		return inRow(inner, node.Gap, m.rowWants(node))
	case tree.KindCol:
		return inCol(inner, node.Gap, m.colWants(node, inner.W))
	case tree.KindBox:
		inner = Inset(inner, frame(node))
	case tree.KindScroll:
		inner.Y -= place.Off
		inner.H += place.Room
	}
	return slices.Repeat([]api.Rect{inner}, len(node.Kids))
}

func inRow(r api.Rect, gap int, wants []api.Want) []api.Rect {
	rects := make([]api.Rect, len(wants))
	widths, lefts := share.Split(r.W, gap, wants), share.Offsets(r.W, gap, wants)
	for k := range rects {
		rects[k] = api.Rect{X: r.X + lefts[k], Y: r.Y, W: widths[k], H: r.H}
	}
	return rects
}

func inCol(r api.Rect, gap int, wants []api.Want) []api.Rect {
	rects := make([]api.Rect, len(wants))
	heights, tops := share.Split(r.H, gap, wants), share.Offsets(r.H, gap, wants)
	for k := range rects {
		rects[k] = api.Rect{X: r.X, Y: r.Y + tops[k], W: r.W, H: heights[k]}
	}
	return rects
}
