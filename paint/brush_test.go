package paint

import (
	"testing"

	"pane/api"
	"pane/canvas"
)

func at(x, y, w, h int) api.Rect { return api.Rect{X: x, Y: y, W: w, H: h} }

// TestBrushAtEdges: no tree has a clip that cuts a rectangle in its columns, so the brush is asked by itself.
func TestBrushAtEdges(t *testing.T) {
	text := api.Node{Kind: 5, Wrap: 1, Text: "水火"}
	box := api.Node{Kind: 3, Border: 1}
	for _, c := range []struct {
		name       string
		node       api.Node
		rect, clip api.Rect
		want       string
	}{
		{"a text of which all is seen", text, at(1, 0, 4, 1), at(1, 0, 4, 1), "x水<>火<>x|xxxxxx|xxxxxx|"},
		{"the clip cuts a tail", text, at(1, 0, 4, 1), at(1, 0, 3, 1), "x水<>.xx|xxxxxx|xxxxxx|"},
		{"the clip cuts a head", text, at(1, 0, 4, 1), at(2, 0, 3, 1), "xx.火<>x|xxxxxx|xxxxxx|"},
		{"the clip cuts a whole one", text, at(1, 0, 4, 1), at(3, 0, 2, 1), "xxx火<>x|xxxxxx|xxxxxx|"},
		{"the clip has no place of it", text, at(1, 0, 4, 1), at(5, 0, 1, 1), "xxxxxx|xxxxxx|xxxxxx|"},
		{"the clip has another row", text, at(1, 0, 4, 1), at(1, 1, 4, 1), "xxxxxx|xxxxxx|xxxxxx|"},
		{"the clip is empty", text, at(1, 0, 4, 1), api.Rect{}, "xxxxxx|xxxxxx|xxxxxx|"},
		{"the screen cuts a tail", text, at(3, 0, 4, 1), at(3, 0, 4, 1), "xxx水<>.|xxxxxx|xxxxxx|"},
		{"the screen cuts a head", text, at(-1, 0, 4, 1), at(-1, 0, 4, 1), ".火<>xxx|xxxxxx|xxxxxx|"},
		{"the screen has no row of it", text, at(0, 3, 4, 1), at(0, 3, 4, 1), "xxxxxx|xxxxxx|xxxxxx|"},
		{"a border of which all is seen", box, at(1, 0, 4, 3), at(1, 0, 4, 3), "x┌──┐x|x│xx│x|x└──┘x|"},
		{"the clip cuts a border's left side", box, at(1, 0, 4, 3), at(2, 0, 4, 3), "xx──┐x|xxxx│x|xx──┘x|"},
		{"the clip cuts a border's right side", box, at(1, 0, 4, 3), at(0, 0, 4, 3), "x┌──xx|x│xxxx|x└──xx|"},
		{"the clip has one place of a border", box, at(1, 0, 4, 3), at(4, 2, 1, 1), "xxxxxx|xxxxxx|xxxx┘x|"},
		{"the clip has what is within a border", box, at(1, 0, 4, 3), at(2, 1, 2, 1), "xxxxxx|xxxxxx|xxxxxx|"},
		{"the screen cuts a border", box, at(-1, -1, 4, 3), at(-1, -1, 4, 3), "xx│xxx|──┘xxx|xxxxxx|"},
		{"a fill within the clip", api.Node{Kind: 6, Bg: 1}, at(1, 0, 4, 3), at(2, 1, 9, 9), "xxxxxx|xx...x|xx...x|"},
		{"a fill within the rectangle", api.Node{Kind: 6, Bg: 1}, at(1, 1, 2, 1), at(0, 0, 6, 3), "xxxxxx|x..xxx|xxxxxx|"},
	} {
		t.Run(c.name, func(t *testing.T) {
			screen, _ := canvas.New(6, 3)
			for y := range 3 {
				for x := range 6 {
					screen.Put(x, y, api.Cluster{Text: "x", W: 1}, api.Style{}, at(0, 0, 6, 3))
				}
			}
			brush{Canvas: screen, clip: c.clip}.paint(c.node, c.rect)
			if got := picture(screen.Cells(), 6, shown); got != c.want {
				t.Errorf("got  %s\nwant %s", got, c.want)
			}
		})
	}
}
