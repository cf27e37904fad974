package box

import (
	"slices"
	"strings"

	"pane/api"
	"pane/flow"
	"pane/glyph"
	"pane/share"
	"pane/tree"
)

const newline = "\n"

// measure knows what the nodes of a tree need (B2).
type measure struct {
	nodes   []api.Node
	widths  []int           // of each node, by its number
	heights map[atWidth]int // as far as they have been asked for
}

// atWidth is a node, by its number, that has a width.
type atWidth struct{ node, w int }

func newMeasure(nodes []api.Node) *measure {
	m := &measure{nodes: nodes, widths: make([]int, len(nodes)), heights: map[atWidth]int{}}
	// From the last one on, since a node's kids stand behind it.
	for i := len(nodes) - 1; i >= 0; i-- {
		m.widths[i] = length(m.workWidth(nodes[i]))
	}
	return m
}

func (m *measure) workWidth(node api.Node) int {
	if node.Kind == tree.KindText {
		return widest(node.Text)
	}
	sum, greatest := 0, 0
	for _, kid := range node.Kids {
		sum += m.widths[kid]
		greatest = max(greatest, m.widths[kid])
	}
	if node.Kind == tree.KindRow {
		return sum + gaps(node)
	}
	return greatest + 2*frame(node)
}

// height tells what a node needs at a width. It is worked once: all that stand
// around a node ask for it, to know their own height and to place their kids.
func (m *measure) height(i, w int) int {
	key := atWidth{node: i, w: w}
	h, known := m.heights[key]
	if !known {
		h = length(m.workHeight(m.nodes[i], w))
		m.heights[key] = h
	}
	return h
}

func (m *measure) workHeight(node api.Node, w int) int {
	if node.Kind == tree.KindText {
		return textHeight(node, w)
	}
	sum, greatest := 0, 0
	widths := m.kidWidths(node, w)
	for k, kid := range node.Kids {
		h := m.height(kid, widths[k])
		sum += h
		greatest = max(greatest, h)
	}
	if node.Kind == tree.KindCol {
		return sum + gaps(node)
	}
	return greatest + 2*frame(node)
}

// kidWidths tells how wide the kids of a node are that is itself w wide.
func (m *measure) kidWidths(node api.Node, w int) []int {
	if node.Kind == tree.KindRow {
		return share.Split(w, node.Gap, m.rowWants(node))
	}
	return slices.Repeat([]int{max(0, w-2*frame(node))}, len(node.Kids))
}

func (m *measure) rowWants(node api.Node) []api.Want {
	return m.wants(node.Kids, func(kid int) int { return m.widths[kid] })
}

func (m *measure) colWants(node api.Node, w int) []api.Want {
	return m.wants(node.Kids, func(kid int) int { return m.height(kid, w) })
}

// wants tells what kids would like of a length, of which each needs something
// (B4). What it needs counts where it has no weight to get more by.
func (m *measure) wants(kids []int, need func(kid int) int) []api.Want {
	list := make([]api.Want, len(kids))
	for k, kid := range kids {
		node := m.nodes[kid]
		least := node.Min
		if node.Weight == 0 {
			least = max(least, atMost(need(kid), node.Max))
		}
		list[k] = api.Want{Min: least, Max: node.Max, Weight: node.Weight}
	}
	return list
}

// atMost takes a most below 0 for none, as a node's max is.
func atMost(n, most int) int {
	if most < 0 {
		return n
	}
	return min(n, most)
}

func widest(text string) int {
	columns := 0
	for paragraph := range strings.SplitSeq(text, newline) {
		columns = max(columns, glyph.Columns(paragraph))
	}
	return columns
}

func textHeight(node api.Node, w int) int {
	switch {
	case w < 1:
		return 0
	case node.Wrap == 1:
		return flow.Count(node.Text, w)
	}
	return strings.Count(node.Text, newline) + 1
}

// gaps tells how long the gaps between a node's kids are together.
func gaps(node api.Node) int {
	return node.Gap * max(0, len(node.Kids)-1)
}

// frame asks for the kind, since nodes of other kinds have a border as without.
func frame(node api.Node) int {
	if node.Kind != tree.KindBox {
		return 0
	}
	return node.Border + node.Pad
}
