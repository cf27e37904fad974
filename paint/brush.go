package paint

import (
	"strings"

	"pane/api"
	"pane/canvas"
	"pane/flow"
	"pane/glyph"
	"pane/tree"
)

const newline = "\n"

// The signs of a border.
const (
	topLeft     = "\u250C"
	topRight    = "\u2510"
	bottomLeft  = "\u2514"
	bottomRight = "\u2518"
	level       = "\u2500"
	upright     = "\u2502"
)

// brush paints a node on the canvas that it has, in the node's style and within its clip.
type brush struct {
	*canvas.Canvas
	style api.Style
	clip  api.Rect
}

// paint paints a node that has the rectangle r. It asks for the kind, since nodes of other kinds have a border as without.
func (b brush) paint(node api.Node, r api.Rect) {
	if node.Bg > 0 {
		b.Fill(r, b.style, b.clip)
	}
	switch {
	case node.Kind == tree.KindBox && node.Border == 1 && r.W >= 2 && r.H >= 2:
		b.paintBorder(r)
	case node.Kind == tree.KindText && r.W >= 1:
		b.paintText(node, r)
	}
}

func (b brush) paintBorder(r api.Rect) {
	right, bottom := r.X+r.W-1, r.Y+r.H-1
	between := strings.Repeat(level, r.W-2)
	b.write(r.X, r.Y, topLeft+between+topRight)
	for y := r.Y + 1; y < bottom; y++ {
		b.write(r.X, y, upright)
		b.write(right, y, upright)
	}
	b.write(r.X, bottom, bottomLeft+between+bottomRight)
}

func (b brush) paintText(node api.Node, r api.Rect) {
	lines := linesOf(node, r.W)
	for n, line := range lines[:min(len(lines), r.H)] {
		b.write(r.X, r.Y+n, flow.Align(line, r.W, node.Align))
	}
}

func linesOf(node api.Node, w int) []string {
	var lines []string
	if node.Wrap == 1 {
		for _, line := range flow.Lines(node.Text, w) {
			lines = append(lines, line.Text)
		}
		return lines
	}
	for paragraph := range strings.SplitSeq(node.Text, newline) {
		lines = append(lines, flow.Cut(paragraph, w))
	}
	return lines
}

// write puts a line's clusters one behind the other. It leaves a row that the clip does not have at once, since of what is scrolled away there may be far more than can be seen.
func (b brush) write(x, y int, line string) {
	if y < b.clip.Y || y >= b.clip.Y+b.clip.H {
		return
	}
	for _, g := range glyph.Clusters(line) {
		b.Put(x, y, g, b.style, b.clip)
		x += g.W
	}
}
