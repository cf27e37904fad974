package differ

import (
	"math/rand"
	"slices"
	"strconv"
	"strings"
	"testing"
	"unicode/utf8"

	"pane/api"
	"pane/glyph"
	"pane/style"
	"pane/term"
)

// isScreen is a second reading of D1: what it says of each cell is asked of each cell by itself.
func isScreen(l []api.Cell, w int) bool {
	if w < 1 || w > 400 || len(l) < w || len(l) > 400*w || len(l)%w != 0 {
		return false
	}
	for i, cell := range l {
		ahead, behind := api.Cell{Part: -1}, api.Cell{Part: -1}
		if i%w > 0 {
			ahead = l[i-1]
		}
		if i%w < w-1 {
			behind = l[i+1]
		}
		switch {
		case !isStyle(cell.Style):
			return false
		case cell.Part == 0 && isCluster(cell.Text, 1):
		case cell.Part == 1 && isCluster(cell.Text, 2) && behind.Part == 2 && behind.Style == cell.Style:
		case cell.Part == 2 && cell.Text == "" && ahead.Part == 1:
		default:
			return false
		}
	}
	return true
}

func isStyle(s api.Style) bool {
	colours, bolds := []int{0, 1, 2, 3, 4, 5, 6, 7, 8}, []int{0, 1}
	return slices.Contains(colours, s.Fg) && slices.Contains(colours, s.Bg) && slices.Contains(bolds, s.Bold)
}

// isCluster tells whether a text is one rune of that width, and at most four of width 0.
func isCluster(s string, width int) bool {
	runes := []rune(s)
	if !utf8.ValidString(s) || len(runes) < 1 || len(runes) > 5 || glyph.Width(int(runes[0])) != width {
		return false
	}
	for i, r := range runes {
		if r < 32 || r >= 127 && r <= 159 || i > 0 && glyph.Width(int(r)) != 0 {
			return false
		}
	}
	return true
}

// watcher reads the bytes of an update, and keeps in mind which cells are written. It knows no other bytes than an update has.
type watcher struct {
	testing.TB
	w       int
	cells   []api.Cell
	written []bool
	x, y    int
	last    int
	style   api.Style
}

func (m *watcher) read(s string) {
	for len(s) > 0 {
		if strings.HasPrefix(s, "\x1b[") {
			end := strings.IndexAny(s, "HJm")
			m.obey(s[end], strings.Split(s[2:end], ";"))
			s = s[end+1:]
			continue
		}
		r, n := utf8.DecodeRuneInString(s)
		m.print(r)
		s = s[n:]
	}
}

func (m *watcher) obey(end byte, words []string) {
	var numbers []int
	for _, word := range words {
		n, err := strconv.Atoi(word)
		if err != nil {
			m.Fatalf("a sequence has the numbers %q", words)
		}
		numbers = append(numbers, n)
	}
	m.last = -1
	switch end {
	case 'H':
		m.x, m.y = numbers[1]-1, numbers[0]-1
	case 'J':
		m.cells = blanks(len(m.cells))
	case 'm':
		m.style = style.Apply(m.style, numbers)
	}
}

func (m *watcher) print(r rune) {
	width := glyph.Width(int(r))
	if width == 0 {
		m.put(m.last, api.Cell{Text: m.cells[m.last].Text + string(r), Style: m.style, Part: m.cells[m.last].Part})
		return
	}
	if m.x < 0 || m.y < 0 || m.x+width > m.w {
		m.Fatalf("%q is written at %d, %d", r, m.x, m.y)
	}
	m.last = m.y*m.w + m.x
	m.part(m.last)
	m.part(m.last + width - 1)
	m.put(m.last, api.Cell{Text: string(r), Style: m.style, Part: width - 1})
	if width == 2 {
		m.put(m.last+1, api.Cell{Style: m.style, Part: 2})
	}
	m.x += width
}

// part makes a blank of the other half of a wide cell.
func (m *watcher) part(i int) {
	other := i
	switch m.cells[i].Part {
	case 1:
		other = i + 1
	case 2:
		other = i - 1
	default:
		return
	}
	m.cells[i].Part = 0
	m.put(other, api.Cell{Text: " ", Style: m.cells[other].Style})
}

func (m *watcher) put(i int, cell api.Cell) {
	m.cells[i] = cell
	m.written[i] = true
}

// mayBeWritten tells which cells D3 lets a terminal write.
func mayBeWritten(old, new []api.Cell) []bool {
	may := make([]bool, len(new))
	for i := range new {
		if old[i] == new[i] {
			continue
		}
		may[i] = true
		for _, cell := range []api.Cell{old[i], new[i]} {
			switch cell.Part {
			case 1:
				may[i+1] = true
			case 2:
				may[i-1] = true
			}
		}
	}
	return may
}

// checkUpdate looks whether an update to a screen that is sound keeps D2 to D4, and tells which cells a watcher saw written.
func checkUpdate(t testing.TB, old []api.Cell, w int, new []api.Cell, v int) []bool {
	t.Helper()
	bytes, errno := Update(old, w, new, v)
	if errno != api.OK {
		t.Fatalf("Update(%+v, %d, %+v, %d) = %q, %d", old, w, new, v, bytes, errno)
	}
	known := isScreen(old, w) && w == v && len(old) == len(new)
	m := &watcher{TB: t, w: v, cells: blanks(len(new)), written: make([]bool, len(new)), x: -1, y: -1, last: -1}
	shown := junk(v, len(new)/v)
	if known {
		m.cells = slices.Clone(old)
		shown = old
	}
	m.read(bytes)
	if !slices.Equal(m.cells, new) || m.style != plain {
		t.Fatalf("from %+v to %+v (%d): %q shows %+v, in %+v", old, new, v, bytes, m.cells, m.style)
	}
	if !known {
		checkFromNothing(t, new, bytes)
	} else {
		checkSparing(t, old, new, bytes, m.written)
	}
	checkOnTerminals(t, shown, new, v, bytes)
	return m.written
}

// checkFromNothing looks whether bytes keep D4.
func checkFromNothing(t testing.TB, new []api.Cell, bytes string) {
	t.Helper()
	if !strings.HasPrefix(bytes, "\x1b[2J") {
		t.Fatalf("from nothing to %+v: %q", new, bytes)
	}
	room := 64
	for _, cell := range new {
		room += 64 + len(cell.Text)
	}
	if len(bytes) > room {
		t.Fatalf("from nothing to %+v: %d bytes, at most %d", new, len(bytes), room)
	}
}

// checkSparing looks whether bytes keep D3.
func checkSparing(t testing.TB, old, new []api.Cell, bytes string, written []bool) {
	t.Helper()
	if same := slices.Equal(old, new); same != (bytes == "") {
		t.Fatalf("from %+v to %+v: %q", old, new, bytes)
	}
	room := 0
	for i, may := range mayBeWritten(old, new) {
		if written[i] && !may {
			t.Fatalf("from %+v to %+v: %q writes cell %d", old, new, bytes, i)
		}
		if written[i] {
			room += 64 + len(new[i].Text)
		}
	}
	if len(bytes) > room {
		t.Fatalf("from %+v to %+v: %d bytes, at most %d", old, new, len(bytes), room)
	}
}

// checkOnTerminals writes the bytes to terminals that show a screen, wherever their cursor stands.
func checkOnTerminals(t testing.TB, shown, new []api.Cell, w int, bytes string) {
	t.Helper()
	h := len(new) / w
	for _, ahead := range []string{"", "\x1b[H", place(w-1, h-1), place(w/2, h/2), again(shown, w)} {
		m, errno := term.New(w, h)
		if errno != api.OK {
			t.Fatalf("no terminal of %d, %d", w, h)
		}
		m.Write(drawn(shown, w) + ahead)
		if !slices.Equal(m.Cells(), shown) || m.Style() != plain {
			t.Fatalf("behind %q a terminal does not show %+v", drawn(shown, w)+ahead, shown)
		}
		m.Write(bytes)
		if !slices.Equal(m.Cells(), new) || m.Style() != plain {
			t.Fatalf("behind %q a terminal shows %+v in %+v, want %+v", bytes, m.Cells(), m.Style(), new)
		}
		checkNothingHalfCome(t, m, new, bytes)
		if len(new) > 1000 {
			return
		}
	}
}

// checkNothingHalfCome writes a letter over the first cell: what waited would take the sequence, or be printed.
func checkNothingHalfCome(t testing.TB, m *term.Term, new []api.Cell, bytes string) {
	t.Helper()
	m.Write("\x1b[Hz")
	want := with(new, 0, api.Cell{Text: "z"})
	if new[0].Part == 1 {
		want[1] = api.Cell{Text: " ", Style: new[1].Style}
	}
	if !slices.Equal(m.Cells(), want) {
		t.Fatalf("behind %q and a letter in the first cell a terminal shows %+v, want %+v", bytes, m.Cells(), want)
	}
}

func place(x, y int) string { return "\x1b[" + strconv.Itoa(y+1) + ";" + strconv.Itoa(x+1) + "H" }

// drawn has all cells of a screen, each with its place and its style.
func drawn(cells []api.Cell, w int) string {
	var b strings.Builder
	for i, cell := range cells {
		if cell.Part != 2 {
			b.WriteString(place(i%w, i/w) + style.Codes(plain, cell.Style) + cell.Text + "\x1b[m")
		}
	}
	return b.String()
}

// again draws a cell once more and leaves it the last one, if one is plain.
func again(cells []api.Cell, w int) string {
	for i := len(cells) - 1; i >= 0; i-- {
		if cells[i].Style == plain && cells[i].Part != 2 {
			return place(i%w, i/w) + cells[i].Text
		}
	}
	return ""
}

// junk is what a terminal may show of which nothing is known.
func junk(w, h int) []api.Cell {
	row := strings.Repeat("水", w/2) + strings.Repeat("x", w%2)
	cells := screen(slices.Repeat([]string{row}, h)...)
	for i := range cells {
		cells[i].Style = loud
	}
	return cells
}

// allRows are all rows of w columns of these cells; those of two columns come with their tails.
func allRows(w int, narrow, wideOnes []api.Cell) [][]api.Cell {
	if w == 0 {
		return [][]api.Cell{nil}
	}
	var rows [][]api.Cell
	for _, rest := range allRows(w-1, narrow, wideOnes) {
		for _, cell := range narrow {
			rows = append(rows, append([]api.Cell{cell}, rest...))
		}
	}
	if w == 1 {
		return rows
	}
	for _, rest := range allRows(w-2, narrow, wideOnes) {
		for _, cell := range wideOnes {
			rows = append(rows, append([]api.Cell{cell, {Style: cell.Style, Part: 2}}, rest...))
		}
	}
	return rows
}

var (
	someNarrow = []api.Cell{{Text: " "}, {Text: "a"}, {Text: "a", Style: red}}
	someWide   = []api.Cell{{Text: "水", Part: 1}, {Text: "水\u0301", Part: 1}, {Text: "水", Style: red, Part: 1}}
)

func TestAllShortRows(t *testing.T) {
	for w := 1; w <= 3; w++ {
		rows := allRows(w, slices.Concat(someNarrow, text("a\u0301")), someWide)
		for _, old := range rows {
			for _, new := range rows {
				checkUpdate(t, old, w, new, w)
			}
		}
	}
}

func TestAllRowsOfFour(t *testing.T) {
	rows := allRows(4, someNarrow, someWide)
	for _, old := range rows {
		for _, new := range rows {
			checkUpdate(t, old, 4, new, 4)
		}
	}
}

// TestAllSmallScreens: each screen of 2, 2, also as one of 4, 1 and of 1, 4.
func TestAllSmallScreens(t *testing.T) {
	rows := allRows(2, someNarrow[1:], someWide[:1])
	var screens [][]api.Cell
	for _, first := range rows {
		for _, second := range rows {
			screens = append(screens, slices.Concat(first, second))
		}
	}
	for _, old := range screens {
		for _, new := range screens {
			for _, w := range []int{1, 2, 4} {
				checkUpdate(t, old, w, new, 2)
			}
		}
	}
}

func TestSoundOfAllShortLists(t *testing.T) {
	some := []api.Cell{
		{Text: "a"}, {Text: "a", Style: red}, {Text: "水", Part: 1}, {Text: "水", Style: red, Part: 1},
		{Part: 2}, {Style: red, Part: 2}, {Text: " ", Part: 2}, {Text: "a", Part: 1}, {Text: "水"}, {}, {Text: "a", Part: 3}, {Text: "\n"},
	}
	lists, sound := [][]api.Cell{nil}, 0
	for range 4 {
		var longer [][]api.Cell
		for _, l := range lists {
			for _, cell := range some {
				longer = append(longer, append(slices.Clone(l), cell))
			}
		}
		lists = longer
		for _, l := range lists {
			for w := -1; w <= 5; w++ {
				want := isScreen(l, w)
				if got := Sound(l, w); got != want {
					t.Fatalf("Sound(%+v, %d) = %v", l, w, got)
				}
				if want {
					sound++
				}
			}
		}
	}
	if sound < 50 {
		t.Errorf("only %d lists are sound", sound)
	}
}

// chooser makes screens at random, always the same ones.
type chooser struct{ *rand.Rand }

func (c chooser) style() api.Style {
	if c.Intn(2) == 0 {
		return plain
	}
	return api.Style{Fg: c.Intn(9), Bg: c.Intn(3) * c.Intn(5), Bold: c.Intn(2)}
}

func (c chooser) text(width int) string {
	bases := [][]string{{" ", "a", "b", "é", "\uFFFD", "│", "\u00A0"}, {"水", "火", "😀", "가"}}[width-1]
	s := bases[c.Intn(len(bases))]
	for range c.Intn(5) * c.Intn(2) {
		s += []string{"\u0301", "\u200B", "\U000E0100"}[c.Intn(3)]
	}
	return s
}

func (c chooser) screen(w, h int) []api.Cell {
	cells := blanks(w * h)
	for range c.Intn(2 * w * h) {
		c.change(cells, w)
	}
	return cells
}

// change writes a cell as a canvas does, so that the screen stays sound.
func (c chooser) change(cells []api.Cell, w int) {
	m := watcher{w: w, cells: cells, written: make([]bool, len(cells)), style: c.style()}
	i, width := c.Intn(len(cells)), 1+c.Intn(2)
	if i%w+width > w {
		width = 1
	}
	m.x, m.y = i%w, i/w
	for _, r := range c.text(width) {
		m.print(r)
	}
}

// spoil makes a screen one that mostly is not sound.
func (c chooser) spoil(cells []api.Cell) []api.Cell {
	cells = slices.Clone(cells)
	cell := &cells[c.Intn(len(cells))]
	switch c.Intn(5) {
	case 0:
		cell.Part = c.Intn(5) - 1
	case 1:
		cell.Text = []string{"", "ab", "\n", "\x1b", "水", "a", "\u0301", "\xFF", "a\u0301\u0301\u0301\u0301\u0301", "\u0085"}[c.Intn(10)]
	case 2:
		cell.Style.Fg = []int{-1, 9, 1, 0}[c.Intn(4)]
	case 3:
		cell.Style = api.Style{Bg: c.Intn(11) - 1, Bold: c.Intn(4) - 1}
	case 4:
		return cells[:c.Intn(len(cells)+1)]
	}
	return cells
}

func TestUpdatesAtRandom(t *testing.T) {
	c := chooser{rand.New(rand.NewSource(11))}
	for range 4000 {
		w, h := 1+c.Intn(9), 1+c.Intn(5)
		old := c.screen(w, h)
		new := c.screen(w, h)
		if c.Intn(3) > 0 {
			new = slices.Clone(old)
			for range c.Intn(4) {
				c.change(new, w)
			}
		}
		if !isScreen(old, w) || !isScreen(new, w) || !Sound(old, w) || !Sound(new, w) {
			t.Fatalf("a screen is not sound: %+v, %+v, %d", old, new, w)
		}
		checkUpdate(t, old, w, new, w)
		switch c.Intn(6) {
		case 0:
			checkUpdate(t, c.spoil(old), w, new, w)
		case 1:
			checkUpdate(t, old, c.Intn(12)-1, new, w)
		case 2:
			checkUpdate(t, c.screen(w, 1+c.Intn(5)), w, new, w)
		}
	}
}

func TestSoundAtRandom(t *testing.T) {
	c := chooser{rand.New(rand.NewSource(12))}
	sound, others := 0, 0
	for range 40000 {
		w, h := 1+c.Intn(6), 1+c.Intn(3)
		cells := c.screen(w, h)
		for range 1 + c.Intn(2) {
			if len(cells) > 0 {
				cells = c.spoil(cells)
			}
		}
		want := isScreen(cells, w)
		if got := Sound(cells, w); got != want {
			t.Fatalf("Sound(%+v, %d) = %v", cells, w, got)
		}
		if bytes, errno := Update(nil, 0, cells, w); (errno == api.OK) != want || !want && (bytes != "" || errno != api.ErrRange) {
			t.Fatalf("Update to %+v, %d = %q, %d", cells, w, bytes, errno)
		}
		if want {
			sound++
		} else {
			others++
		}
	}
	if sound < 2000 || others < 2000 {
		t.Errorf("only %d screens are sound, only %d are not", sound, others)
	}
}
