package style

import (
	"math"
	"strconv"
	"strings"
	"testing"

	"pane/api"
)

// A second reading of chapter 6.

// read is a style as it counts: what it may be is tried, one by one.
func read(s api.Style) api.Style {
	out := plain
	for n := 1; n <= 8; n++ {
		if s.Fg == n {
			out.Fg = n
		}
		if s.Bg == n {
			out.Bg = n
		}
	}
	if s.Bold == 1 {
		out.Bold = 1
	}
	return out
}

// allStyles has every style as it counts, and all others of numbers at and beyond the bounds.
func allStyles() []api.Style {
	numbers := []int{math.MinInt, -256, -1, 0, 1, 2, 7, 8, 9, 1<<32 + 1, math.MaxInt}
	bolds := []int{math.MinInt, -1, 0, 1, 2, math.MaxInt}
	var all []api.Style
	for _, fg := range numbers {
		for _, bg := range numbers {
			for _, bold := range bolds {
				all = append(all, hue(fg, bg, bold))
			}
		}
	}
	return append(all, rightStyles()...)
}

func rightStyles() []api.Style {
	var all []api.Style
	for fg := 0; fg <= 8; fg++ {
		for bg := 0; bg <= 8; bg++ {
			all = append(all, hue(fg, bg, 0), hue(fg, bg, 1))
		}
	}
	return all
}

func readOver(around, own api.Style) api.Style {
	around, own = read(around), read(own)
	first := func(a, b int) int {
		if a != 0 {
			return a
		}
		return b
	}
	return hue(first(own.Fg, around.Fg), first(own.Bg, around.Bg), first(own.Bold, around.Bold))
}

func readCodes(from, to api.Style) string {
	from, to = read(from), read(to)
	if from == to {
		return ""
	}
	if to == plain {
		return "\x1b[0m"
	}
	text := ""
	if from.Bold == 1 && to.Bold == 0 {
		text += ";0"
		from = plain
	}
	if to.Bold == 1 && from.Bold == 0 {
		text += ";1"
	}
	if from.Fg != to.Fg {
		text += ";" + []string{"39", "30", "31", "32", "33", "34", "35", "36", "37"}[to.Fg]
	}
	if from.Bg != to.Bg {
		text += ";" + []string{"49", "40", "41", "42", "43", "44", "45", "46", "47"}[to.Bg]
	}
	return "\x1b[" + text[1:] + "m"
}

// asked has what each number that means something asks for.
var asked = map[int]func(s *api.Style){
	0:  func(s *api.Style) { *s = api.Style{} },
	1:  func(s *api.Style) { s.Bold = 1 },
	22: func(s *api.Style) { s.Bold = 0 },
	30: func(s *api.Style) { s.Fg = 1 },
	31: func(s *api.Style) { s.Fg = 2 },
	32: func(s *api.Style) { s.Fg = 3 },
	33: func(s *api.Style) { s.Fg = 4 },
	34: func(s *api.Style) { s.Fg = 5 },
	35: func(s *api.Style) { s.Fg = 6 },
	36: func(s *api.Style) { s.Fg = 7 },
	37: func(s *api.Style) { s.Fg = 8 },
	39: func(s *api.Style) { s.Fg = 0 },
	40: func(s *api.Style) { s.Bg = 1 },
	41: func(s *api.Style) { s.Bg = 2 },
	42: func(s *api.Style) { s.Bg = 3 },
	43: func(s *api.Style) { s.Bg = 4 },
	44: func(s *api.Style) { s.Bg = 5 },
	45: func(s *api.Style) { s.Bg = 6 },
	46: func(s *api.Style) { s.Bg = 7 },
	47: func(s *api.Style) { s.Bg = 8 },
	49: func(s *api.Style) { s.Bg = 0 },
}

func readApply(s api.Style, params []int) api.Style {
	s = read(s)
	if len(params) == 0 {
		params = []int{0}
	}
	for _, n := range params {
		if do := asked[n]; do != nil {
			do(&s)
		}
	}
	return s
}

func TestOverOfAllStyles(t *testing.T) {
	all := allStyles()
	for _, around := range all {
		for _, own := range all {
			if got, want := Over(around, own), readOver(around, own); got != want {
				t.Fatalf("Over(%+v, %+v) = %+v, want %+v", around, own, got, want)
			}
		}
	}
}

func TestCodesOfAllStyles(t *testing.T) {
	all := allStyles()
	for _, from := range all {
		for _, to := range all {
			if got, want := Codes(from, to), readCodes(from, to); got != want {
				t.Fatalf("Codes(%+v, %+v) = %q, want %q", from, to, got, want)
			}
		}
	}
}

// TestCodesAreApplied: what Codes writes, Apply does.
func TestCodesAreApplied(t *testing.T) {
	for _, from := range rightStyles() {
		for _, to := range rightStyles() {
			text := Codes(from, to)
			if text == "" {
				if from != to {
					t.Fatalf("Codes(%+v, %+v) is empty", from, to)
				}
				continue
			}
			var params []int
			for _, word := range strings.Split(strings.TrimSuffix(strings.TrimPrefix(text, "\x1b["), "m"), ";") {
				n, err := strconv.Atoi(word)
				if err != nil {
					t.Fatalf("Codes(%+v, %+v) = %q: %v", from, to, text, err)
				}
				params = append(params, n)
			}
			if got := Apply(from, params); got != to {
				t.Fatalf("Apply(%+v, %v) = %+v, want %+v", from, params, got, to)
			}
		}
	}
}

func TestApplyEachNumber(t *testing.T) {
	numbers := []int{math.MinInt, math.MinInt + 1, math.MaxInt - 1, math.MaxInt}
	for n := -130; n <= 600; n++ {
		numbers = append(numbers, n, n+1<<16, n+1<<32)
	}
	for _, s := range allStyles() {
		for _, n := range numbers {
			if got, want := Apply(s, []int{n}), readApply(s, []int{n}); got != want {
				t.Fatalf("Apply(%+v, %d) = %+v, want %+v", s, n, got, want)
			}
		}
	}
}

func TestApplyShortLists(t *testing.T) {
	numbers := []int{-1, 0, 1, 2, 22, 30, 35, 37, 38, 39, 40, 45, 47, 48, 49}
	lists := [][]int{nil}
	for from := 0; len(lists[from]) < 3; from++ {
		for _, n := range numbers {
			lists = append(lists, append(append([]int{}, lists[from]...), n))
		}
	}
	for _, s := range []api.Style{plain, hue(5, 6, 1), hue(5, 6, 0), hue(9, 3, 2), hue(3, -1, 1)} {
		for _, list := range lists {
			if got, want := Apply(s, list), readApply(s, list); got != want {
				t.Fatalf("Apply(%+v, %v) = %+v, want %+v", s, list, got, want)
			}
		}
	}
}
