package differ

import (
	"strconv"
	"strings"

	"pane/api"
	"pane/style"
)

const clearScreen = "\x1b[2J"

// nowhere is where the cursor stands as long as nothing tells.
const nowhere = -1

// pen writes the bytes for a terminal of w columns; it knows at which cell the cursor stands behind them, and in which style.
type pen struct {
	strings.Builder
	w, at int
	style api.Style
}

// update writes what differs, from the left on. That is enough: a wide cell that loses a half differs in both, so that the half which a terminal makes a blank is written anew, by itself or as a tail; and what has a tail that differs, differs in its head, which writes both.
func (p *pen) update(old, new []api.Cell) {
	for i, cell := range new {
		if cell != old[i] && cell.Part != partTail {
			p.moveTo(i)
			p.dip(cell.Style)
			p.write(cell)
		}
	}
	p.dip(api.Style{})
}

// moveTo takes the first cell of a row for one at which the cursor does not stand: behind a full row it stands beyond that row's end.
func (p *pen) moveTo(i int) {
	if i != p.at || i%p.w == 0 {
		p.WriteString("\x1b[" + strconv.Itoa(i/p.w+1) + ";" + strconv.Itoa(i%p.w+1) + "H")
		p.at = i
	}
}

func (p *pen) dip(st api.Style) {
	p.WriteString(style.Codes(p.style, st))
	p.style = st
}

func (p *pen) write(cell api.Cell) {
	p.WriteString(cell.Text)
	p.at += columnsOf(cell.Part)
}
