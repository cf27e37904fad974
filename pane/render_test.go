package pane

import (
	"math"
	"slices"
	"strconv"
	"strings"
	"testing"

	"pane/api"
	"pane/style"
	"pane/term"
)

const clearing = "\x1b[2J"

// viewer is a session and a terminal, which is given what N4 says and nothing else.
type viewer struct {
	*Session
	terminal *term.Term
	w, h     int
	ahead    []api.Cell // the screen of the last Render; nil ahead of the first one, and of the first one behind a Resize
}

func view(t testing.TB, w, h int) *viewer {
	t.Helper()
	terminal, errno := term.New(w, h)
	if errno != api.OK {
		t.Fatalf("no terminal of %d, %d", w, h)
	}
	return &viewer{Session: made(t, w, h), terminal: terminal, w: w, h: h}
}

// size resizes both, if the session lets itself be resized.
func (v *viewer) size(w, h int) api.Errno {
	errno := v.Resize(w, h)
	if errno == api.OK {
		v.terminal.Resize(w, h)
		v.w, v.h, v.ahead = w, h, nil
	}
	return errno
}

// render looks whether a Render keeps N4, and tells its bytes.
func (v *viewer) render(t testing.TB) string {
	t.Helper()
	want := v.Screen()
	bytes := v.Render()
	v.terminal.Write(bytes)
	if got := v.terminal.Cells(); !slices.Equal(got, want) {
		t.Fatalf("behind %q the terminal shows %s, want %s", bytes, picture(got, v.w), picture(want, v.w))
	}
	if v.ahead == nil {
		wantWhole(t, bytes, want)
	} else {
		wantSparing(t, bytes, v.ahead, want, v.w)
	}
	if got := v.Screen(); !slices.Equal(got, want) {
		t.Fatalf("Render changed the screen from %s to %s", picture(want, v.w), picture(got, v.w))
	}
	v.ahead = want
	return bytes
}

// wantWhole looks at the bytes of a first Render.
func wantWhole(t testing.TB, bytes string, screen []api.Cell) {
	t.Helper()
	room := 64
	for _, cell := range screen {
		room += 64 + len(cell.Text)
	}
	if !strings.HasPrefix(bytes, clearing) || len(bytes) > room {
		t.Fatalf("a first Render is %q, of %d bytes", bytes, len(bytes))
	}
}

// wantSparing looks whether bytes keep D3. It asks a terminal that shows, cell by cell, something that no test's tree has, as wide as the screen ahead: what is not as it was there is written.
func wantSparing(t testing.TB, bytes string, ahead, screen []api.Cell, w int) {
	t.Helper()
	if same := slices.Equal(ahead, screen); same != (bytes == "") {
		t.Fatalf("from %s to %s Render is %q", picture(ahead, w), picture(screen, w), bytes)
	}
	terminal, _ := term.New(w, len(screen)/w)
	terminal.Write(strange(ahead, w))
	before := terminal.Cells()
	terminal.Write(bytes)
	may, room := mayBeWritten(ahead, screen), 0
	for i, cell := range terminal.Cells() {
		if cell == before[i] {
			continue
		}
		if !may[i] {
			t.Fatalf("from %s to %s: %q writes cell %d", picture(ahead, w), picture(screen, w), bytes, i)
		}
		room += 64 + len(screen[i].Text)
	}
	if len(bytes) > room {
		t.Fatalf("from %s to %s: %d bytes, at most %d", picture(ahead, w), picture(screen, w), len(bytes), room)
	}
}

// strange has the bytes of a screen with as wide cells at the same places.
func strange(cells []api.Cell, w int) string {
	var b strings.Builder
	b.WriteString(style.Codes(api.Style{}, api.Style{Fg: 8, Bg: 8, Bold: 1}))
	for i, cell := range cells {
		if i%w == 0 {
			b.WriteString("\x1b[" + strconv.Itoa(i/w+1) + "H")
		}
		b.WriteString([]string{"§", "龜", ""}[cell.Part])
	}
	return b.String() + "\x1b[m"
}

// mayBeWritten tells which cells D3 lets a terminal write.
func mayBeWritten(ahead, screen []api.Cell) []bool {
	may := make([]bool, len(screen))
	for i := range screen {
		if ahead[i] == screen[i] {
			continue
		}
		may[i] = true
		for _, cell := range []api.Cell{ahead[i], screen[i]} {
			switch cell.Part {
			case 1:
				may[i+1] = true
			case 2:
				may[i-1] = true
			}
		}
	}
	return may
}

func wantNothing(t testing.TB, v *viewer) {
	t.Helper()
	if got := v.render(t); got != "" {
		t.Errorf("Render = %q, though nothing is new", got)
	}
}

func wantClearing(t testing.TB, v *viewer) {
	t.Helper()
	if got := v.render(t); !strings.HasPrefix(got, clearing) {
		t.Errorf("Render = %q, want one that begins with ESC[2J", got)
	}
}

// wantChange wants bytes, and none that clear all.
func wantChange(t testing.TB, v *viewer) {
	t.Helper()
	if got := v.render(t); got == "" || strings.Contains(got, clearing) {
		t.Errorf("Render = %q", got)
	}
}

func TestTheFirstRender(t *testing.T) {
	for _, text := range []string{"gap", "", `text"hi"`, `text{fg=2;bold=1}"水"`, `box{bg=3}[text"a"]`, scrollOfLines(1, 9)} {
		for _, side := range []int{1, 2, 3, 5} {
			v := view(t, side, 6-side)
			if text != "" {
				set(t, v.Session, text)
			}
			wantClearing(t, v)
			wantNothing(t, v)
			wantNothing(t, v)
		}
	}
}

// TestTheFirstRenderBehindOtherCalls: those that change something, those that ask, those that are refused.
func TestTheFirstRenderBehindOtherCalls(t *testing.T) {
	v := view(t, 3, 2)
	v.Screen()
	v.Hit(0, 0)
	v.Set("none")
	v.size(0, 0)
	set(t, v.Session, scrollOfLines(1, 5))
	scroll(t, v.Session, 1, 2)
	set(t, v.Session, "gap")
	v.size(2, 3)
	wantClearing(t, v)
}

// TestTheDocumentsExample: a session of 5 and 1, `text"hi"`, then `text"ha"`.
func TestTheDocumentsExample(t *testing.T) {
	v := view(t, 5, 1)
	set(t, v.Session, `text"hi"`)
	wantClearing(t, v)
	wantNothing(t, v)
	set(t, v.Session, `text"ha"`)
	if got := v.render(t); got != "\x1b[1;2Ha" {
		t.Errorf("Render = %q", got)
	}
	if got, want := picture(v.terminal.Cells(), 5), "ha...|"; got != want {
		t.Errorf("the terminal shows %s, want %s", got, want)
	}
}

func TestRenderBehindResize(t *testing.T) {
	v := view(t, 4, 2)
	set(t, v.Session, `text"abcdef"`)
	wantClearing(t, v)
	for _, c := range []struct{ w, h int }{{6, 2}, {6, 1}, {1, 1}, {1, 6}, {4, 2}} {
		v.size(c.w, c.h)
		wantClearing(t, v)
		wantNothing(t, v)
	}
}

// TestRenderBehindResizeToTheSameSize: the terminal is as a new one, so all of it must come again.
func TestRenderBehindResizeToTheSameSize(t *testing.T) {
	for _, text := range []string{"gap", `text"abcdef"`} {
		v := view(t, 4, 2)
		set(t, v.Session, text)
		first := v.render(t)
		for range 3 {
			if errno := v.size(4, 2); errno != api.OK {
				t.Fatalf("Resize = %d", errno)
			}
			if got := v.render(t); got != first {
				t.Errorf("behind Resize to the same size Render = %q, want %q", got, first)
			}
			wantNothing(t, v)
		}
	}
}

// TestRenderBehindSeveralResizes: there and back, without a Render in between, and with a Set.
func TestRenderBehindSeveralResizes(t *testing.T) {
	v := view(t, 4, 2)
	set(t, v.Session, `text"abcdef"`)
	wantClearing(t, v)
	v.size(5, 5)
	v.size(4, 2)
	wantClearing(t, v)
	v.size(2, 4) // as many cells as ahead
	set(t, v.Session, `text"水"`)
	wantClearing(t, v)
	set(t, v.Session, `text"火"`)
	wantChange(t, v)
	v.size(2, 4)
	v.size(0, 4)
	wantClearing(t, v)
	wantNothing(t, v)
}

func TestRenderBehindAResizeThatWasRefused(t *testing.T) {
	v := view(t, 4, 2)
	if errno := v.size(401, 2); errno != api.ErrRange {
		t.Fatalf("Resize = %d", errno)
	}
	wantClearing(t, v) // it is the first one
	for _, wrong := range []int{math.MinInt, -1, 0, 401, math.MaxInt} {
		v.size(wrong, 2)
		v.size(4, wrong)
		wantNothing(t, v)
	}
	set(t, v.Session, `text"a"`)
	v.size(0, 0)
	wantChange(t, v)
	wantNothing(t, v)
}

func TestRenderBehindSet(t *testing.T) {
	v := view(t, 6, 3)
	wantClearing(t, v)
	for _, text := range []string{
		`text"hi"`, `text"ha"`, `text{fg=2}"ha"`, `text{fg=2;bold=1}"ha 水"`, `text"水水水"`, `text" 水水"`, `text"水"`, "text\"e\u0301\"", "text\"e\u0301\u0302\"",
		`box[text"ab"]`, `box{bg=5}[text"ab"]`, `row[box[gap],text"水"]`, `col{gap=1}[text"a",text{align=2}"b"]`, "gap{bg=1}", "text\"\x1b[2J\x07\xff\"", scrollOfLines(1, 8), "gap",
	} {
		set(t, v.Session, text)
		wantChange(t, v)
		wantNothing(t, v)
		set(t, v.Session, text)
		wantNothing(t, v)
		set(t, v.Session, " "+text+"\n")
		wantNothing(t, v)
	}
}

// TestRenderBehindAnotherTreeThatLooksTheSame: what is to be seen counts, not the tree.
func TestRenderBehindAnotherTreeThatLooksTheSame(t *testing.T) {
	v := view(t, 4, 2)
	set(t, v.Session, `text"a"`)
	wantClearing(t, v)
	for _, text := range []string{`row[text"a"]`, `stack[text"b",text"a"]`, `scroll{id=3}[text"a"]`, `box{border=0}[text{id=1;wrap=0}"a  "]`} {
		set(t, v.Session, text)
		wantNothing(t, v)
	}
	// There and back without a Render in between.
	set(t, v.Session, `text"b"`)
	set(t, v.Session, `text"a"`)
	wantNothing(t, v)
}

func TestRenderBehindScroll(t *testing.T) {
	v := view(t, 3, 2)
	set(t, v.Session, scrollOfLines(4, 9))
	wantClearing(t, v)
	for _, c := range []struct {
		by      int
		changes bool
	}{
		{0, false}, {-1, false}, {math.MinInt, false}, {1, true}, {0, false}, {2, true}, {-1, true}, {math.MaxInt, true}, {1, false}, {math.MaxInt, false}, {-2, true}, {math.MinInt, true},
	} {
		scroll(t, v.Session, 4, c.by)
		if c.changes {
			wantChange(t, v)
		}
		wantNothing(t, v)
	}
	if errno := v.Scroll(5, 1); errno != api.ErrNone {
		t.Errorf("Scroll(5, 1) = %d", errno)
	}
	wantNothing(t, v)
	scroll(t, v.Session, 4, 3)
	scroll(t, v.Session, 4, -3)
	wantNothing(t, v)
}

// TestRenderOfLinesThatLookTheSame: a Scroll that changes the offset, but nothing that is to be seen.
func TestRenderOfLinesThatLookTheSame(t *testing.T) {
	v := view(t, 3, 2)
	set(t, v.Session, `scroll{id=4}[text"a\na\na\na\nb"]`)
	wantClearing(t, v)
	scroll(t, v.Session, 4, 1)
	wantOffset(t, v.Session, 4, 1, 3)
	wantNothing(t, v)
	scroll(t, v.Session, 4, 2)
	wantChange(t, v)
}

// TestRenderWritesNoMoreThanHasChanged: one cell of the greatest screen.
func TestRenderWritesNoMoreThanHasChanged(t *testing.T) {
	v := view(t, 400, 400)
	set(t, v.Session, `box{bg=4}[text"ab"]`)
	wantClearing(t, v)
	set(t, v.Session, `box{bg=4}[text"ac"]`)
	if got := v.render(t); len(got) > 64+1 {
		t.Errorf("Render = %q", got)
	}
	wantNothing(t, v)
}

// TestRendersInTheirOrder: all calls that change something, and each time what a terminal shows.
func TestRendersInTheirOrder(t *testing.T) {
	v := view(t, 6, 2)
	shows := func(want string) {
		t.Helper()
		v.render(t)
		if got := picture(v.terminal.Cells(), v.w); got != want {
			t.Errorf("the terminal shows %s, want %s", got, want)
		}
	}
	shows("......|......|")
	set(t, v.Session, `row[`+scrollOfLines(1, 5)+`,`+scrollOfLines(2, 9)+`,text"水"]`)
	shows("0.0.水>|1.1...|")
	scroll(t, v.Session, 2, 4)
	shows("0.4.水>|1.5...|")
	v.size(3, 3)
	shows("04.|15.|26.|")
	scroll(t, v.Session, 1, 9)
	v.size(4, 1)
	shows("2.4.|")
	v.Set("row[")
	v.size(-1, 1)
	shows("2.4.|")
	set(t, v.Session, scrollOfLines(2, 9))
	shows("4...|")
	set(t, v.Session, `row[`+scrollOfLines(1, 5)+`,`+scrollOfLines(2, 9)+`]`)
	v.size(4, 2)
	shows("0.4.|1.5.|")
	v.size(4, 2)
	shows("0.4.|1.5.|")
	scroll(t, v.Session, 2, math.MinInt)
	set(t, v.Session, `row{fg=3}[`+scrollOfLines(1, 5)+`,`+scrollOfLines(2, 9)+`]`)
	shows("0.0.|1.1.|")
}
