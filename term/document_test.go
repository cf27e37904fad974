package term

import (
	"math/rand"
	"slices"
	"strconv"
	"strings"
	"testing"

	"pane/api"
	"pane/glyph"
)

// A second reading of chapter 9: all bytes that have come are read anew, from the first one on, each piece as a whole with what stands behind it in sight.

type reading struct {
	look
	last, marks int // the number of the last cell, or -1
}

func newReading(w, h int) *reading { return &reading{look: newLook(w, h), last: -1} }

func (d *reading) readAll(s string) {
	for len(s) > 0 {
		n := d.readPiece(s)
		if n == 0 {
			return
		}
		s = s[n:]
	}
}

// readPiece tells how many bytes it took; 0, if the piece is half come.
func (d *reading) readPiece(s string) int {
	switch b := s[0]; {
	case b == 27:
		return d.readSequence(s)
	case b <= 31 || b == 127:
		d.last = -1
		return 1
	}
	r, n := runeAt(s)
	if n > 0 {
		d.print(r)
	}
	return n
}

// A form is one row of G1's list of right sequences: the bounds of each byte.
type form [][2]byte

var more = [2]byte{0x80, 0xBF}

var forms = []form{
	{{0x00, 0x7F}},
	{{0xC2, 0xDF}, more},
	{{0xE0, 0xE0}, {0xA0, 0xBF}, more},
	{{0xE1, 0xEC}, more, more},
	{{0xEE, 0xEF}, more, more},
	{{0xED, 0xED}, {0x80, 0x9F}, more},
	{{0xF0, 0xF0}, {0x90, 0xBF}, more, more},
	{{0xF1, 0xF3}, more, more, more},
	{{0xF4, 0xF4}, {0x80, 0x8F}, more, more},
}

// runeAt tells the rune with which s begins, and how many bytes it has; 0, if it is half come.
func runeAt(s string) (rune, int) {
	for _, f := range forms {
		n := 0
		for n < len(f) && n < len(s) && f[n][0] <= s[n] && s[n] <= f[n][1] {
			n++
		}
		switch {
		case n == len(f):
			r := []rune(s[:n])[0]
			if r >= 128 && r <= 159 {
				r = 0xFFFD
			}
			return r, n
		case n == len(s):
			return 0, 0
		}
	}
	return 0xFFFD, 1
}

func (d *reading) print(r rune) {
	width := glyph.Width(int(r))
	if width == 0 {
		if d.last >= 0 && d.marks < 4 {
			d.cells[d.last].Text += string(r)
			d.marks++
		}
		return
	}
	d.last, d.marks = -1, 0
	if d.x+width > d.w {
		return
	}
	d.last = d.y*d.w + d.x
	d.free(d.last)
	d.free(d.last + width - 1)
	d.cells[d.last] = api.Cell{Text: string(r), Style: d.style, Part: width - 1}
	if width == 2 {
		d.cells[d.last+1] = api.Cell{Style: d.style, Part: 2}
	}
	d.x += width
}

// free makes blanks of both halves of a wide cell.
func (d *reading) free(i int) {
	switch d.cells[i].Part {
	case 1:
		d.cells[i+1] = api.Cell{Text: " ", Style: d.cells[i+1].Style}
	case 2:
		d.cells[i-1] = api.Cell{Text: " ", Style: d.cells[i-1].Style}
	}
	d.cells[i] = api.Cell{Text: " ", Style: d.cells[i].Style}
}

func (d *reading) readSequence(s string) int {
	d.last = -1
	if len(s) < 2 {
		return 0
	}
	if s[1] != '[' {
		return 2
	}
	between := s[2:]
	length := strings.IndexFunc(between, func(r rune) bool { return !strings.ContainsRune("0123456789:;", r) })
	if length < 0 {
		return 0
	}
	if end := between[length]; end >= 64 && end <= 126 {
		d.obey(end, numbersOf(between[:length]))
	}
	return 2 + length + 1
}

func numbersOf(s string) []int {
	var list []int
	for _, word := range strings.Split(s, ";") {
		digits := strings.TrimLeft(strings.ReplaceAll(word, ":", ""), "0")
		n, _ := strconv.Atoi("0" + digits)
		if len(digits) > 6 {
			n = 999999
		}
		list = append(list, n)
	}
	return list[:min(16, len(list))]
}

func (d *reading) obey(end byte, list []int) {
	switch end {
	case 'H':
		list = append(list, 0)
		d.y = max(1, min(list[0], d.h)) - 1
		d.x = max(1, min(list[1], d.w)) - 1
	case 'J':
		if list[0] == 2 {
			d.cells = newLook(d.w, d.h).cells
		}
	case 'm':
		for _, n := range list {
			d.apply(n)
		}
	}
}

func (d *reading) apply(n int) {
	switch {
	case n == 0:
		d.style = api.Style{}
	case n == 1, n == 22:
		d.style.Bold = n % 2
	case n == 39:
		d.style.Fg = 0
	case n == 49:
		d.style.Bg = 0
	case n/10 == 3 && n%10 < 8:
		d.style.Fg = n%10 + 1
	case n/10 == 4 && n%10 < 8:
		d.style.Bg = n%10 + 1
	}
}

// checkBytes holds a terminal that got its bytes in pieces against a reading of all of them, behind every piece.
func checkBytes(t testing.TB, w, h int, pieces []string) {
	t.Helper()
	m := made(t, w, h)
	for i, piece := range pieces {
		m.Write(piece)
		checkAgainstReading(t, m, strings.Join(pieces[:i+1], ""))
	}
}

func checkAgainstReading(t testing.TB, m *Term, bytes string) {
	t.Helper()
	got := lookOf(m)
	d := newReading(got.w, got.h)
	d.readAll(bytes)
	if !got.same(d.look) {
		t.Fatalf("on %d, %d behind %q:\nit shows %+v, the cursor at %d, %d, in %+v\nwant %+v, %d, %d, %+v", got.w, got.h, bytes, got.cells, got.x, got.y, got.style, d.cells, d.x, d.y, d.style)
	}
}

// allLists hands out all lists of so many pieces.
func allLists(pieces []string, n int, yield func([]string)) {
	list := make([]string, n)
	var fill func(i int)
	fill = func(i int) {
		if i == n {
			yield(list)
			return
		}
		for _, p := range pieces {
			list[i] = p
			fill(i + 1)
		}
	}
	fill(0)
}

func TestAllShortListsOfPieces(t *testing.T) {
	pieces := []string{"a", "水", "\u0301", "\x1b[1;2H", "\x1b[31m", "\x01", "\x1b[2J", "\xE6", "\x1b["}
	allLists(pieces, 5, func(list []string) { checkBytes(t, 3, 1, list) })
	marks := []string{"a", "水", "\u0301", "\x01"}
	allLists(marks, 8, func(list []string) { checkBytes(t, 4, 1, list) })
}

func TestAllShortListsOfBytes(t *testing.T) {
	var bytes []string
	for _, b := range []byte("a[2;:Hm\x00\x1b\x7F\xCC\x81\xE6\xB0\xB4\xF0\x9F\xC0") {
		bytes = append(bytes, string([]byte{b}))
	}
	allLists(bytes, 4, func(list []string) { checkBytes(t, 3, 2, list) })
}

// TestAllPairsOfBytes: whatever comes, behind whatever has begun.
func TestAllPairsOfBytes(t *testing.T) {
	for _, c := range begun {
		for first := range 256 {
			for second := range 256 {
				s := c.ahead + string([]byte{byte(first), byte(second)})
				m := made(t, 4, 2)
				m.Write(s)
				checkAgainstReading(t, m, s)
			}
		}
	}
}

// chooser makes bytes at random, always the same ones.
type chooser struct{ *rand.Rand }

func (c chooser) word(list ...string) string { return list[c.Intn(len(list))] }

func (c chooser) numbers() string {
	s := ""
	for range c.Intn(4) {
		s += c.word("", "0", "1", "2", "3", "4", "7", "22", "31", "37", "39", "42", "49", "999999", "1000000", "18446744073709551618", ":", "3:1", "007") + c.word(";", ";", ";", "", ":")
	}
	if c.Intn(10) == 0 {
		s += strings.Repeat(c.word(";", "1;", "7;"), 13+c.Intn(5)) + c.word("31", "0", "")
	}
	return s
}

func (c chooser) piece() string {
	switch c.Intn(10) {
	case 0, 1:
		return "\x1b[" + c.numbers() + c.word("H", "H", "H", "J", "m", "m", "m", "K", "A", "\x00", "\x1b", "?", "é")
	case 2:
		return "\x1b[" + c.word("1", "2", "3") + ";" + c.word("1", "2", "3", "4", "5") + "H"
	case 3:
		return c.word("\x1b", "\x1b[", "\x1bM", "\x1b[2J", "\x1b[2J", "\x1b\x1b")
	case 4:
		return string([]byte{byte(c.Intn(256))})
	case 5:
		return c.word("\xC3", "\xE6\xB0", "\xF0\x9F\x98", "\xF0\x9F", "\xED\xA0", "\xE0\x80", "\xF4\x90", "\x80")
	case 6:
		return strings.Repeat(c.word("\u0301", "\u200B", "\uFE0F", "\U000E0100"), 1+c.Intn(5))
	case 7, 8:
		return c.word("水", "火", "😀", "가")
	}
	return c.word("a", "b", " ", "é", "\u0085", "\uFFFD", "abc")
}

// cut parts bytes at random places.
func (c chooser) cut(s string) []string {
	var list []string
	for len(s) > 0 {
		n := 1 + c.Intn(min(len(s), 12))
		list = append(list, s[:n])
		s = s[n:]
	}
	return list
}

func TestBytesAtRandom(t *testing.T) {
	c := chooser{rand.New(rand.NewSource(9))}
	for range 6000 {
		s := ""
		for range 1 + c.Intn(40) {
			s += c.piece()
		}
		checkBytes(t, 1+c.Intn(9), 1+c.Intn(4), c.cut(s))
	}
}

// TestResizesAtRandom: behind one that is answered with OK all that came ahead of it is forgotten; behind another one nothing.
func TestResizesAtRandom(t *testing.T) {
	c := chooser{rand.New(rand.NewSource(10))}
	for range 1000 {
		m, bytes := made(t, 4, 2), ""
		for range 40 {
			if c.Intn(6) > 0 {
				s := c.piece()
				m.Write(s)
				bytes += s
			} else if w, h := c.Intn(8), c.Intn(5)*c.Intn(101); m.Resize(w, h) == api.OK {
				bytes = ""
				if gotW, gotH := m.Size(); gotW != w || gotH != h {
					t.Fatalf("behind Resize(%d, %d) the size is %d, %d", w, h, gotW, gotH)
				}
			} else if isRight(w) && isRight(h) {
				t.Fatalf("Resize(%d, %d) is refused", w, h)
			}
			checkAgainstReading(t, m, bytes)
		}
	}
}

// TestTheGreatestScreen fills 400 rows of 400 columns, half of them with wide cells.
func TestTheGreatestScreen(t *testing.T) {
	var b strings.Builder
	for y := range 400 {
		b.WriteString("\x1b[" + strconv.Itoa(y+1) + "H\x1b[3" + strconv.Itoa(y%8) + "m")
		if y%2 == 0 {
			b.WriteString(strings.Repeat("水", 201))
		} else {
			b.WriteString(strings.Repeat("e\u0301", 401))
		}
	}
	m := made(t, 400, 400)
	m.Write(b.String())
	checkAgainstReading(t, m, b.String())
	if first := m.Cells()[:2]; !slices.Equal(first, []api.Cell{{Text: "水", Style: api.Style{Fg: 1}, Part: 1}, {Style: api.Style{Fg: 1}, Part: 2}}) {
		t.Errorf("the first cells are %+v", first)
	}
}
