package term

import (
	"slices"
	"strconv"
	"strings"
	"testing"

	"pane/api"
)

func TestSequencesThatAreNone(t *testing.T) {
	checkShots(t, []shot{
		{"ESC alone waits", "a\x1b", 3, 1, "a..|", 1, 0},
		{"ESC and a letter", "\x1bMx", 3, 1, "x..|", 1, 0},
		{"ESC and the byte ahead of the bracket", "\x1bZx", 3, 1, "x..|", 1, 0},
		{"ESC and the byte behind the bracket", "\x1b\\x", 3, 1, "x..|", 1, 0},
		{"ESC and a digit", "\x1b2Jx", 3, 1, "Jx.|", 2, 0},
		{"ESC and a control", "\x1b\nx", 3, 1, "x..|", 1, 0},
		{"ESC and a byte of a rune", "\x1b\xC3\xA9x", 3, 1, bad + "x.|", 2, 0},
		{"ESC and FF", "\x1b\xFFx", 3, 1, "x..|", 1, 0},
		{"ESC behind ESC", "\x1b\x1b[H", 3, 1, "[H.|", 2, 0},
		{"ESC behind ESC, and a third one", "ab\x1b\x1b\x1b[Hc", 3, 1, "cb.|", 1, 0},
		{"the bracket alone waits", "\x1b[", 3, 1, "...|", 0, 0},
		{"digits wait", "\x1b[12;3", 3, 1, "...|", 0, 0},
		{"a control within", "\x1b[3\x01H", 3, 1, "H..|", 1, 0},
		{"ESC within is left out", "\x1b[3\x1b[H", 3, 1, "[H.|", 2, 0},
		{"a blank within", "\x1b[ Hx", 3, 1, "Hx.|", 2, 0},
		{"the byte ahead of the digits", "\x1b[/Hx", 3, 1, "Hx.|", 2, 0},
		{"the byte behind the semicolon", "\x1b[<Hx", 3, 1, "Hx.|", 2, 0},
		{"a question mark", "\x1b[?25hx", 4, 1, "25hx|", 4, 0},
		{"127 within", "\x1b[1\x7FHx", 3, 1, "Hx.|", 2, 0},
		{"a byte of a rune within", "\x1b[1\xC3\xA9x", 3, 1, bad + "x.|", 2, 0},
		{"FF within", "\x1b[1\xFFHx", 3, 1, "Hx.|", 2, 0},
		{"a bracket ends it", "\x1b[[Hx", 3, 1, "Hx.|", 2, 0},
	})
}

// TestEachByteBehindESC: but for the bracket each one is left out.
func TestEachByteBehindESC(t *testing.T) {
	for b := range 256 {
		m := made(t, 4, 1)
		m.Write("ab\x1b" + string([]byte{byte(b)}) + "1;1Hc")
		want := "ab1;|"
		if b == '[' {
			want = "cb..|"
		}
		if got := picture(m.Cells(), 4); got != want {
			t.Errorf("behind ESC and byte %d it shows %q, want %q", b, got, want)
		}
	}
}

// TestEachByteWithin: digits, ':' and ';' go on, 64 to 126 end the sequence and others break it; but for three of them nothing is done.
func TestEachByteWithin(t *testing.T) {
	red := api.Style{Fg: 2}
	for b := range 256 {
		for _, numbers := range []string{"", "2", "1;2"} {
			m := made(t, 4, 2)
			m.Write("\x1b[31mab\x1b[" + numbers + string([]byte{byte(b)}))
			x, y := m.Cursor()
			wantX, wantY, wantStyle, want := 2, 0, red, "ab..|....|"
			switch {
			case b == 'H' && numbers == "":
				wantX = 0
			case b == 'H' && numbers == "2":
				wantX, wantY = 0, 1
			case b == 'H':
				wantX = 1
			case b == 'J' && numbers == "2":
				want = "....|....|"
			case b == 'm' && numbers == "":
				wantStyle = api.Style{}
			case b == 'm' && numbers == "1;2":
				wantStyle.Bold = 1
			}
			if got := picture(m.Cells(), 4); got != want || x != wantX || y != wantY || m.Style() != wantStyle {
				t.Errorf("behind ESC[%s and byte %d it shows %q, the cursor at %d, %d, in %+v; want %q, %d, %d, %+v", numbers, b, got, x, y, m.Style(), want, wantX, wantY, wantStyle)
			}
			m.Write("\x1b[1;4Hz")
			// Only what goes on lets the next ESC be a byte within.
			if goesOn := b >= 48 && b <= 59; (picture(m.Cells(), 4)[3] == 'z') == goesOn {
				t.Errorf("behind ESC[%s and byte %d it shows %q at last", numbers, b, picture(m.Cells(), 4))
			}
		}
	}
}

func TestMoves(t *testing.T) {
	checkShots(t, []shot{
		{"to a place", "\x1b[2;3Hab", 5, 2, ".....|..ab.|", 4, 1},
		{"no number", "ab\x1b[Hc", 5, 2, "cb...|.....|", 1, 0},
		{"one number", "ab\x1b[2Hc", 5, 2, "ab...|c....|", 1, 1},
		{"the second one alone", "\x1b[;2Hq", 5, 2, ".q...|.....|", 2, 0},
		{"the first one and a semicolon", "ab\x1b[2;Hq", 5, 2, "ab...|q....|", 1, 1},
		{"a semicolon alone", "ab\x1b[;Hq", 5, 2, "qb...|.....|", 1, 0},
		{"0 and 0", "ab\x1b[0;0Hq", 5, 2, "qb...|.....|", 1, 0},
		{"0 and another one", "\x1b[0;3Hq", 5, 2, "..q..|.....|", 3, 0},
		{"another one and 0", "\x1b[2;0Hq", 5, 2, ".....|q....|", 1, 1},
		{"1 and 1", "ab\x1b[1;1Hq", 5, 2, "qb...|.....|", 1, 0},
		{"the last row and column", "\x1b[2;5Hq", 5, 2, ".....|....q|", 5, 1},
		{"beyond the last row", "\x1b[3;2Hq", 5, 2, ".....|.q...|", 2, 1},
		{"beyond the last column", "\x1b[1;6Hq", 5, 2, "....q|.....|", 5, 0},
		{"far beyond both", "\x1b[999999;999999Hq", 5, 2, ".....|....q|", 5, 1},
		{"beyond the greatest number", "\x1b[1000000;4294967298Hq", 5, 2, ".....|....q|", 5, 1},
		{"digits that would wrap round", "\x1b[18446744073709551617;18446744073709551618Hq", 5, 2, ".....|....q|", 5, 1},
		{"needless zeros", "\x1b[0000000000000000000000002;00003Hq", 5, 2, ".....|..q..|", 3, 1},
		{"58 between digits", "\x1b[2;1:2Hq", 15, 2, "...............|...........q...|", 12, 1},
		{"58 alone", "ab\x1b[:;:Hq", 5, 2, "qb...|.....|", 1, 0},
		{"58 around a number", "\x1b[:2:;:3:Hq", 5, 2, ".....|..q..|", 3, 1},
		{"more numbers than it needs", "\x1b[2;3;1;1;9Hq", 5, 2, ".....|..q..|", 3, 1},
		{"from beyond the row's end", "abcde\x1b[1;2Hq", 5, 2, "aqcde|.....|", 2, 0},
		{"on one cell", "\x1b[7;7Hq", 1, 1, "q|", 1, 0},
	})
}

func TestAllMoves(t *testing.T) {
	for row := range 8 {
		for column := range 8 {
			m := made(t, 5, 6)
			m.Write("\x1b[" + strconv.Itoa(row) + ";" + strconv.Itoa(column) + "H")
			x, y := m.Cursor()
			if wantX, wantY := max(0, min(column, 5)-1), max(0, min(row, 6)-1); x != wantX || y != wantY {
				t.Errorf("row %d and column %d: the cursor at %d, %d, want %d, %d", row, column, x, y, wantX, wantY)
			}
		}
	}
}

func TestClears(t *testing.T) {
	checkShots(t, []shot{
		{"2", "ab\x1b[2;2Hc\x1b[2J", 3, 2, "...|...|", 2, 1},
		{"2 and going on", "ab\x1b[2Jc", 3, 2, "..c|...|", 3, 0},
		{"2 over wide ones", "a水\x1b[2;1H火\x1b[2J", 3, 2, "...|...|", 2, 1},
		{"2 behind a full row", "abc\x1b[2Jd", 3, 2, "...|...|", 3, 0},
		{"2 and more numbers", "ab\x1b[2;7;2J", 3, 2, "...|...|", 2, 0},
		{"needless zeros", "ab\x1b[002J", 3, 2, "...|...|", 2, 0},
		{"no number", "ab\x1b[J", 3, 2, "ab.|...|", 2, 0},
		{"0", "ab\x1b[0J", 3, 2, "ab.|...|", 2, 0},
		{"1", "ab\x1b[1J", 3, 2, "ab.|...|", 2, 0},
		{"3", "ab\x1b[3J", 3, 2, "ab.|...|", 2, 0},
		{"22", "ab\x1b[22J", 3, 2, "ab.|...|", 2, 0},
		{"2:2", "ab\x1b[2:2J", 3, 2, "ab.|...|", 2, 0},
		{"the second one is 2", "ab\x1b[;2J", 3, 2, "ab.|...|", 2, 0},
		{"what would wrap round to 2", "ab\x1b[18446744073709551618J", 3, 2, "ab.|...|", 2, 0},
		{"a small j", "ab\x1b[2j", 3, 2, "ab.|...|", 2, 0},
	})
	m := made(t, 3, 2)
	m.Write("\x1b[1;31;42mab水\x1b[2J")
	if m.Style() != (api.Style{Fg: 2, Bg: 3, Bold: 1}) {
		t.Errorf("behind J the style is %+v: it stays", m.Style())
	}
	if !slices.Equal(m.Cells(), newLook(3, 2).cells) {
		t.Errorf("behind J the cells are %+v: they are plain", m.Cells())
	}
}

func TestStyles(t *testing.T) {
	for _, c := range []struct {
		name, bytes string
		want        api.Style
	}{
		{"no number", "\x1b[31m\x1b[m", api.Style{}},
		{"0", "\x1b[1;31;42m\x1b[0m", api.Style{}},
		{"all that a style has", "\x1b[1;31;42m", api.Style{Fg: 2, Bg: 3, Bold: 1}},
		{"from a style on", "\x1b[1;31;42m\x1b[22;49m", api.Style{Fg: 2}},
		{"a semicolon alone is two times 0", "\x1b[1;31m\x1b[;m", api.Style{}},
		{"no digits at first", "\x1b[31m\x1b[;1m", api.Style{Bold: 1}},
		{"no digits amid", "\x1b[1;31m\x1b[32;;1m", api.Style{Bold: 1}},
		{"no digits at last", "\x1b[31m\x1b[1;m", api.Style{}},
		{"58 between digits", "\x1b[3:1m", api.Style{Fg: 2}},
		{"58 parts nothing", "\x1b[1:31m", api.Style{}},
		{"58 alone is 0", "\x1b[31m\x1b[:m", api.Style{}},
		{"needless zeros", "\x1b[0000000000031m", api.Style{Fg: 2}},
		{"numbers that mean nothing", "\x1b[31m\x1b[7;38;90;999999m", api.Style{Fg: 2}},
		{"what would wrap round to 31", "\x1b[18446744073709551647;4294967327m", api.Style{}},
		{"very many digits", "\x1b[31m\x1b[" + strings.Repeat("9", 100000) + ";1m", api.Style{Fg: 2, Bold: 1}},
		{"very many zeros", "\x1b[31m\x1b[" + strings.Repeat("0", 100000) + "1m", api.Style{Fg: 2, Bold: 1}},
		{"16 numbers", "\x1b[" + strings.Repeat("7;", 15) + "31m", api.Style{Fg: 2}},
		{"17 numbers", "\x1b[" + strings.Repeat("7;", 15) + "31;32m", api.Style{Fg: 2}},
		{"17 numbers, the last one 0", "\x1b[" + strings.Repeat("7;", 15) + "31;0m", api.Style{Fg: 2}},
		{"17 numbers, the last one without digits", "\x1b[" + strings.Repeat("7;", 15) + "31;m", api.Style{Fg: 2}},
		{"18 numbers", "\x1b[" + strings.Repeat("7;", 15) + "31;3;1m", api.Style{Fg: 2}},
		{"16 numbers, the last one without digits", "\x1b[31m\x1b[" + strings.Repeat("7;", 15) + "m", api.Style{}},
		{"very many numbers", "\x1b[31" + strings.Repeat(";32", 100000) + "m", api.Style{Fg: 3}},
		{"very many numbers, none of them with digits", "\x1b[31m\x1b[" + strings.Repeat(";", 100000) + "1m", api.Style{}},
		{"broken ahead of its end", "\x1b[31\x01m", api.Style{}},
		{"a large M", "\x1b[31M", api.Style{}},
	} {
		t.Run(c.name, func(t *testing.T) {
			m, cut := made(t, 3, 1), made(t, 3, 1)
			m.Write(c.bytes)
			for i := range len(c.bytes) {
				cut.Write(c.bytes[i : i+1])
			}
			if m.Style() != c.want || cut.Style() != c.want {
				t.Errorf("the style is %+v, byte by byte %+v, want %+v", m.Style(), cut.Style(), c.want)
			}
		})
	}
}

// TestNumbers: that a number above 999999 is 999999, no sequence shows; so the numbers are asked by themselves.
func TestNumbers(t *testing.T) {
	for _, c := range []struct {
		bytes string
		want  []int
	}{
		{"", []int{0}},
		{"7", []int{7}},
		{"999998", []int{999998}},
		{"999999", []int{999999}},
		{"1000000", []int{999999}},
		{"1000001;5", []int{999999, 5}},
		{"0999999", []int{999999}},
		{"00000001", []int{1}},
		{"9999990", []int{999999}},
		{"18446744073709551616", []int{999999}},
		{";", []int{0, 0}},
		{"1;;3", []int{1, 0, 3}},
		{"1;2;3;4;5;6;7;8;9;10;11;12;13;14;15;16", []int{1, 2, 3, 4, 5, 6, 7, 8, 9, 10, 11, 12, 13, 14, 15, 16}},
		{"1;2;3;4;5;6;7;8;9;10;11;12;13;14;15;16;17", []int{1, 2, 3, 4, 5, 6, 7, 8, 9, 10, 11, 12, 13, 14, 15, 16}},
		{"1;2;3;4;5;6;7;8;9;10;11;12;13;14;15;16;17;18;19", []int{1, 2, 3, 4, 5, 6, 7, 8, 9, 10, 11, 12, 13, 14, 15, 16}},
	} {
		var n numbers
		for _, b := range c.bytes {
			if b == ';' {
				n = n.withAnother()
			} else {
				n = n.withDigit(int(b - '0'))
			}
		}
		if got := n.counted(); !slices.Equal(got, c.want) {
			t.Errorf("the numbers of %q are %v, want %v", c.bytes, got, c.want)
		}
	}
}
