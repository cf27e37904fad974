package glyph

// span is a range of runes, both ends within it, that have one width.
type span struct{ first, last, width int }

// spans are in rising order and do not overlap, so that they can be sought by
// halves. What stands in none of them has width 1.
var spans = [...]span{
	{0x300, 0x36F, 0},
	{0x483, 0x489, 0},
	{0x591, 0x5BD, 0},
	{0x610, 0x61A, 0},
	{0x64B, 0x65F, 0},
	{0x1100, 0x115F, 2},
	{0x1AB0, 0x1AFF, 0},
	{0x1DC0, 0x1DFF, 0},
	{0x200B, 0x200F, 0},
	{0x20D0, 0x20FF, 0},
	{0x2E80, 0x303E, 2},
	{0x3041, 0x33FF, 2},
	{0x3400, 0x4DBF, 2},
	{0x4E00, 0x9FFF, 2},
	{0xA000, 0xA4CF, 2},
	{0xAC00, 0xD7A3, 2},
	{0xF900, 0xFAFF, 2},
	{0xFE00, 0xFE0F, 0},
	{0xFE20, 0xFE2F, 0},
	{0xFE30, 0xFE6F, 2},
	{0xFF00, 0xFF60, 2},
	{0xFFE0, 0xFFE6, 2},
	{0x1F300, 0x1F64F, 2},
	{0x1F900, 0x1F9FF, 2},
	{0x20000, 0x3FFFD, 2},
	{0xE0100, 0xE01EF, 0},
}

// Width tells how many columns a rune takes (G3).
func Width(r int) int {
	if r == newline {
		return 0
	}
	low, high := 0, len(spans)
	for low < high {
		mid := (low + high) / 2
		switch {
		case r < spans[mid].first:
			high = mid
		case r > spans[mid].last:
			low = mid + 1
		default:
			return spans[mid].width
		}
	}
	return 1
}
