package style

import (
	"math"
	"slices"
	"testing"

	"pane/api"
)

func hue(fg, bg, bold int) api.Style { return api.Style{Fg: fg, Bg: bg, Bold: bold} }

var plain = hue(0, 0, 0)

func TestOver(t *testing.T) {
	for _, c := range []struct {
		name              string
		around, own, want api.Style
	}{
		{"plain over plain", plain, plain, plain},
		{"all of its own", hue(1, 2, 0), hue(3, 4, 1), hue(3, 4, 1)},
		{"nothing of its own", hue(1, 2, 1), plain, hue(1, 2, 1)},
		{"Fg of its own", hue(1, 2, 0), hue(3, 0, 0), hue(3, 2, 0)},
		{"Bg of its own", hue(1, 2, 0), hue(0, 3, 0), hue(1, 3, 0)},
		{"nothing around", plain, hue(5, 6, 1), hue(5, 6, 1)},
		{"Fg from around, Bg of its own", hue(7, 0, 0), hue(0, 8, 0), hue(7, 8, 0)},
		{"the least colours", hue(8, 8, 0), hue(1, 1, 0), hue(1, 1, 0)},
		{"the greatest colours", hue(1, 1, 0), hue(8, 8, 0), hue(8, 8, 0)},

		{"neither is bold", hue(1, 1, 0), hue(2, 2, 0), hue(2, 2, 0)},
		{"bold around", hue(0, 0, 1), hue(2, 2, 0), hue(2, 2, 1)},
		{"bold of its own", hue(1, 1, 0), hue(0, 0, 1), hue(1, 1, 1)},
		{"both are bold", hue(0, 0, 1), hue(0, 0, 1), hue(0, 0, 1)},

		{"own colours above their bound", hue(1, 2, 0), hue(9, 9, 0), hue(1, 2, 0)},
		{"own colours below 0", hue(1, 2, 0), hue(-1, -1, 0), hue(1, 2, 0)},
		{"own numbers above all bounds", hue(1, 2, 0), hue(math.MaxInt, math.MaxInt, math.MaxInt), hue(1, 2, 0)},
		{"own numbers below all bounds", hue(1, 2, 0), hue(math.MinInt, math.MinInt, math.MinInt), hue(1, 2, 0)},
		{"colours around above their bound", hue(9, 9, 0), hue(0, 3, 0), hue(0, 3, 0)},
		{"colours around below 0", hue(-1, -1, 0), hue(3, 0, 0), hue(3, 0, 0)},
		{"numbers around above all bounds", hue(math.MaxInt, math.MaxInt, math.MaxInt), plain, plain},
		{"numbers around below all bounds", hue(math.MinInt, math.MinInt, math.MinInt), plain, plain},
		{"a Bold of 2", hue(0, 0, 2), hue(0, 0, 2), plain},
		{"a Bold below 0", hue(0, 0, -1), hue(0, 0, -1), plain},
		{"a Bold of 2 over bold", hue(0, 0, 1), hue(0, 0, 2), hue(0, 0, 1)},
		{"bold over a Bold below 0", hue(0, 0, -1), hue(0, 0, 1), hue(0, 0, 1)},
	} {
		t.Run(c.name, func(t *testing.T) {
			if got := Over(c.around, c.own); got != c.want {
				t.Errorf("Over(%+v, %+v) = %+v, want %+v", c.around, c.own, got, c.want)
			}
		})
	}
}

func TestCodes(t *testing.T) {
	for _, c := range []struct {
		name     string
		from, to api.Style
		want     string
	}{
		{"plain to plain", plain, plain, ""},
		{"colours that stay", hue(3, 4, 0), hue(3, 4, 0), ""},
		{"bold that stays", hue(0, 0, 1), hue(0, 0, 1), ""},
		{"all of it stays", hue(8, 8, 1), hue(8, 8, 1), ""},

		{"Fg to plain", hue(3, 0, 0), plain, "\x1b[0m"},
		{"Bg to plain", hue(0, 3, 0), plain, "\x1b[0m"},
		{"bold to plain", hue(0, 0, 1), plain, "\x1b[0m"},
		{"all to plain", hue(3, 4, 1), plain, "\x1b[0m"},

		{"from bold, Fg stays", hue(3, 0, 1), hue(3, 0, 0), "\x1b[0;32m"},
		{"from bold, Bg stays", hue(0, 3, 1), hue(0, 3, 0), "\x1b[0;42m"},
		{"from bold, both stay", hue(3, 4, 1), hue(3, 4, 0), "\x1b[0;32;43m"},
		{"from bold, both differ", hue(3, 4, 1), hue(4, 3, 0), "\x1b[0;33;42m"},
		{"from bold, Fg to the terminal's own", hue(3, 4, 1), hue(0, 4, 0), "\x1b[0;43m"},
		{"from bold, Bg to the terminal's own", hue(3, 4, 1), hue(3, 0, 0), "\x1b[0;32m"},
		{"from bold alone to colours", hue(0, 0, 1), hue(1, 8, 0), "\x1b[0;30;47m"},

		{"to bold alone", plain, hue(0, 0, 1), "\x1b[1m"},
		{"to bold, colours stay", hue(3, 4, 0), hue(3, 4, 1), "\x1b[1m"},
		{"to bold and Fg", plain, hue(3, 0, 1), "\x1b[1;32m"},
		{"to bold and Bg", plain, hue(0, 3, 1), "\x1b[1;42m"},
		{"to bold and both", plain, hue(3, 4, 1), "\x1b[1;32;43m"},
		{"to bold, both to the terminal's own", hue(3, 4, 0), hue(0, 0, 1), "\x1b[1;39;49m"},

		{"Fg", plain, hue(3, 0, 0), "\x1b[32m"},
		{"the least Fg", plain, hue(1, 0, 0), "\x1b[30m"},
		{"the greatest Fg", plain, hue(8, 0, 0), "\x1b[37m"},
		{"Fg to another", hue(1, 5, 0), hue(2, 5, 0), "\x1b[31m"},
		{"Fg to the terminal's own", hue(1, 5, 0), hue(0, 5, 0), "\x1b[39m"},
		{"Fg while bold stays", hue(1, 5, 1), hue(0, 5, 1), "\x1b[39m"},
		{"Bg", plain, hue(0, 3, 0), "\x1b[42m"},
		{"the least Bg", plain, hue(0, 1, 0), "\x1b[40m"},
		{"the greatest Bg", plain, hue(0, 8, 0), "\x1b[47m"},
		{"Bg to another", hue(5, 1, 0), hue(5, 2, 0), "\x1b[41m"},
		{"Bg to the terminal's own", hue(5, 1, 0), hue(5, 0, 0), "\x1b[49m"},
		{"Bg while bold stays", hue(5, 1, 1), hue(5, 0, 1), "\x1b[49m"},
		{"both", plain, hue(3, 4, 0), "\x1b[32;43m"},
		{"both to the terminal's own, bold stays", hue(3, 4, 1), hue(0, 0, 1), "\x1b[39;49m"},
		{"Fg comes, Bg goes", hue(0, 4, 0), hue(3, 0, 0), "\x1b[32;49m"},
		{"Fg goes, Bg comes", hue(3, 0, 0), hue(0, 4, 0), "\x1b[39;43m"},

		{"the same, as they count", hue(9, -1, 2), hue(-1, 9, -1), ""},
		{"the same, beyond all bounds", hue(math.MaxInt, math.MinInt, math.MaxInt), hue(math.MinInt, math.MaxInt, math.MinInt), ""},
		{"plain, as it counts", hue(3, 4, 1), hue(9, -1, 2), "\x1b[0m"},
		{"from plain, as it counts", hue(9, -1, 2), hue(0, 1, 0), "\x1b[40m"},
		{"a Fg above its bound", hue(3, 4, 0), hue(9, 4, 0), "\x1b[39m"},
		{"a Bg below 0", hue(3, 4, 0), hue(3, -1, 0), "\x1b[49m"},
		{"a Fg above its bound stays the terminal's own", hue(0, 1, 0), hue(9, 2, 0), "\x1b[41m"},
		{"a Bold of 2 is not bold", hue(3, 0, 0), hue(3, 0, 2), ""},
		{"from bold to a Bold of 2", hue(3, 0, 1), hue(3, 0, 2), "\x1b[0;32m"},
		{"from a Bold of 2 to not bold", hue(3, 0, 2), hue(4, 0, 0), "\x1b[33m"},
		{"from a Bold of 2 to bold", hue(3, 0, 2), hue(3, 0, 1), "\x1b[1m"},
		{"from a Bold below 0 to bold", hue(3, 0, -1), hue(3, 0, 1), "\x1b[1m"},
	} {
		t.Run(c.name, func(t *testing.T) {
			if got := Codes(c.from, c.to); got != c.want {
				t.Errorf("Codes(%+v, %+v) = %q, want %q", c.from, c.to, got, c.want)
			}
		})
	}
}

func TestApply(t *testing.T) {
	for _, c := range []struct {
		name   string
		from   api.Style
		params []int
		want   api.Style
	}{
		{"no numbers", hue(5, 6, 1), nil, plain},
		{"an empty list", hue(5, 6, 1), []int{}, plain},
		{"0", hue(5, 6, 1), []int{0}, plain},
		{"0 of plain", plain, []int{0}, plain},
		{"1", hue(5, 6, 0), []int{1}, hue(5, 6, 1)},
		{"1 of bold", hue(5, 6, 1), []int{1}, hue(5, 6, 1)},
		{"22", hue(5, 6, 1), []int{22}, hue(5, 6, 0)},
		{"22 of not bold", hue(5, 6, 0), []int{22}, hue(5, 6, 0)},
		{"30", hue(5, 6, 1), []int{30}, hue(1, 6, 1)},
		{"37", hue(5, 6, 1), []int{37}, hue(8, 6, 1)},
		{"39", hue(5, 6, 1), []int{39}, hue(0, 6, 1)},
		{"40", hue(5, 6, 1), []int{40}, hue(5, 1, 1)},
		{"47", hue(5, 6, 1), []int{47}, hue(5, 8, 1)},
		{"49", hue(5, 6, 1), []int{49}, hue(5, 0, 1)},

		{"all that a style has", plain, []int{1, 32, 43}, hue(3, 4, 1)},
		{"the last one of a kind holds", plain, []int{31, 41, 32, 42, 33}, hue(4, 3, 0)},
		{"bold and not", plain, []int{1, 22}, plain},
		{"not bold and bold", plain, []int{22, 1}, hue(0, 0, 1)},
		{"a colour and its end", plain, []int{30, 40, 39, 49}, plain},
		{"0 at first", hue(5, 6, 1), []int{0, 31}, hue(2, 0, 0)},
		{"0 in the middle", hue(5, 6, 0), []int{1, 0, 33}, hue(4, 0, 0)},
		{"0 in the middle, of more", plain, []int{1, 30, 40, 0, 44, 1}, hue(0, 5, 1)},
		{"0 at last", hue(5, 6, 1), []int{1, 31, 41, 0}, plain},

		{"numbers that mean nothing", hue(5, 6, 1), []int{2, 21, 23, 29, 38, 48, 50, 90, 107}, hue(5, 6, 1)},
		{"nothing among others", hue(5, 6, 0), []int{38, 5, 1}, hue(5, 6, 1)},
		{"numbers below 0", hue(5, 6, 1), []int{-1, -22, -30, -39, -49}, hue(5, 6, 1)},
		{"numbers beyond all bounds", hue(5, 6, 1), []int{math.MinInt, math.MaxInt, 1 << 32, 1<<32 + 1, 1<<32 + 30}, hue(5, 6, 1)},
		{"numbers that a byte would take for others", hue(5, 6, 1), []int{256, 256 + 22, 256 + 39, 256 + 49}, hue(5, 6, 1)},

		{"a style above its bounds", hue(9, 9, 2), []int{2}, plain},
		{"a style below its bounds", hue(-1, -1, -1), []int{2}, plain},
		{"a style above all bounds", hue(math.MaxInt, math.MaxInt, math.MaxInt), []int{2}, plain},
		{"a style below all bounds", hue(math.MinInt, math.MinInt, math.MinInt), []int{2}, plain},
		{"a Fg that counts as 0 stays so", hue(9, 6, 1), []int{40}, hue(0, 1, 1)},
		{"a Bg that counts as 0 stays so", hue(5, 9, 1), []int{30}, hue(1, 0, 1)},
		{"a Bold that counts as 0 stays so", hue(5, 6, 2), []int{30}, hue(1, 6, 0)},
	} {
		t.Run(c.name, func(t *testing.T) {
			handed := slices.Clone(c.params)
			if got := Apply(c.from, handed); got != c.want {
				t.Errorf("Apply(%+v, %v) = %+v, want %+v", c.from, c.params, got, c.want)
			}
			if !slices.Equal(handed, c.params) {
				t.Errorf("Apply changed its numbers %v to %v", c.params, handed)
			}
		})
	}
}

func TestApplyManyNumbers(t *testing.T) {
	many := slices.Repeat([]int{1, 31, 42, 0, 33, 7}, 200000)
	if got, want := Apply(hue(8, 8, 1), many), hue(4, 0, 0); got != want {
		t.Errorf("Apply of %d numbers = %+v, want %+v", len(many), got, want)
	}
	if got, want := Apply(plain, many[:len(many)-3]), hue(2, 3, 1); got != want {
		t.Errorf("Apply of %d numbers = %+v, want %+v", len(many)-3, got, want)
	}
}
