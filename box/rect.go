package box

import "pane/api"

const maxLength = 100000

// Cap is what two rectangles both have (B1).
func Cap(a api.Rect, b api.Rect) api.Rect {
	a, b = clamped(a), clamped(b)
	left, right := max(a.X, b.X), min(a.X+a.W, b.X+b.W)
	top, bottom := max(a.Y, b.Y), min(a.Y+a.H, b.Y+b.H)
	if left >= right || top >= bottom {
		return api.Rect{}
	}
	return api.Rect{X: left, Y: top, W: right - left, H: bottom - top}
}

// Inset is a rectangle within (B1).
func Inset(r api.Rect, n int) api.Rect {
	r = clamped(r)
	n = length(n)
	return api.Rect{
		X: r.X + min(n, r.W/2),
		Y: r.Y + min(n, r.H/2),
		W: max(0, r.W-2*n),
		H: max(0, r.H-2*n),
	}
}

// Holds tells whether a place is in a rectangle (B1).
func Holds(r api.Rect, x int, y int) bool {
	r = clamped(r)
	return r.X <= x && x < r.X+r.W && r.Y <= y && y < r.Y+r.H
}

// clamped keeps sums of a rectangle's numbers from wrapping round.
func clamped(r api.Rect) api.Rect {
	return api.Rect{X: position(r.X), Y: position(r.Y), W: length(r.W), H: length(r.H)}
}

func position(n int) int { return min(max(n, -maxLength), maxLength) }

func length(n int) int { return min(max(n, 0), maxLength) }
