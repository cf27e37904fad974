package term

import (
	"pane/api"
	"pane/style"
)

const (
	maxNumbers     = 16
	greatestNumber = 999999
	wholeScreen    = 2
)

// numbers are those of a sequence. All that do not count come to one place behind those that do, so that they need no more room however many they are. A sequence without a number is as one with a 0: nothing tells them apart.
type numbers struct {
	list [maxNumbers + 1]int
	at   int
}

// withDigit stops at the greatest number at once: more digits would only make it greater.
func (n numbers) withDigit(digit int) numbers {
	n.list[n.at] = min(n.list[n.at]*10+digit, greatestNumber)
	return n
}

func (n numbers) withAnother() numbers {
	n.at = min(n.at+1, maxNumbers)
	return n
}

func (n numbers) counted() []int { return n.list[:min(n.at+1, maxNumbers)] }

// obey does what the byte that ends a sequence tells.
func (t *Term) obey(b byte, n numbers) {
	switch b {
	case 'H':
		w, h := t.Size()
		t.x, t.y = placeOf(n.list[1], w), placeOf(n.list[0], h)
	case 'J':
		if n.list[0] == wholeScreen {
			t.screen.Fill(t.whole(), api.Style{}, t.whole())
		}
	case 'm':
		t.style = style.Apply(t.style, n.counted())
	}
}

// placeOf counts from 0 what a sequence counts from 1, within a side.
func placeOf(number, side int) int { return min(max(number, 1), side) - 1 }
