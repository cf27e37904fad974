package differ

import (
	"pane/api"
	"pane/glyph"
	"pane/style"
)

const maxSide = 400

// What a cell shows: a cell of one column, or one half of a wide one.
const (
	partWhole = 0
	partHead  = 1
	partTail  = 2
)

// Sound tells whether cells are a screen (D1).
func Sound(l []api.Cell, w int) bool {
	if !isSide(w) || len(l)%w != 0 || !isSide(len(l)/w) {
		return false
	}
	for ; len(l) > 0; l = l[w:] {
		if !isRow(l[:w]) {
			return false
		}
	}
	return true
}

func isSide(n int) bool { return 1 <= n && n <= maxSide }

// isRow takes cell after cell, a wide one with its tail: a tail that is left to stand first has no head.
func isRow(row []api.Cell) bool {
	for len(row) > 0 {
		head := row[0]
		n := columnsOf(head.Part)
		if !isShown(head, n) || len(row) < n {
			return false
		}
		if n == 2 && row[1] != (api.Cell{Style: head.Style, Part: partTail}) {
			return false
		}
		row = row[n:]
	}
	return true
}

// columnsOf is 0 for what cannot begin a cell.
func columnsOf(part int) int {
	switch part {
	case partWhole:
		return 1
	case partHead:
		return 2
	}
	return 0
}

// isShown tells whether a terminal can show a cell of n columns as it is.
func isShown(cell api.Cell, n int) bool {
	if n == 0 || style.Over(api.Style{}, cell.Style) != cell.Style {
		return false
	}
	clusters := glyph.Clusters(cell.Text)
	return len(clusters) == 1 && clusters[0] == api.Cluster{Text: cell.Text, W: n}
}
