package flow

import (
	"math"
	"slices"
	"strings"
	"testing"

	"pane/api"
	"pane/glyph"
)

func line(text string, w, first, n, end int) api.Line {
	return api.Line{Text: text, W: w, First: first, N: n, End: end}
}

func TestLines(t *testing.T) {
	for _, c := range []struct {
		name, text string
		w          int
		want       []api.Line
	}{
		{"two lines, parted at the blank behind", "the quick brown", 9, []api.Line{line("the quick", 9, 0, 9, 0), line("brown", 5, 10, 5, 3)}},
		{"all of it, and room left", "ab", 9, []api.Line{line("ab", 2, 0, 2, 3)}},
		{"all of it, just so", "ab", 2, []api.Line{line("ab", 2, 0, 2, 3)}},
		{"all of it, blanks and all", " a  b ", 6, []api.Line{line(" a  b ", 6, 0, 6, 3)}},

		{"nothing", "", 1, []api.Line{line("", 0, 0, 0, 3)}},
		{"nothing but a newline", "\n", 1, []api.Line{line("", 0, 0, 0, 2), line("", 0, 1, 0, 3)}},
		{"newlines alone", "\n\n", 4, []api.Line{line("", 0, 0, 0, 2), line("", 0, 1, 0, 2), line("", 0, 2, 0, 3)}},
		{"an empty paragraph between", "a\n\nb", 4, []api.Line{line("a", 1, 0, 1, 2), line("", 0, 2, 0, 2), line("b", 1, 3, 1, 3)}},
		{"an empty paragraph ahead", "\na", 4, []api.Line{line("", 0, 0, 0, 2), line("a", 1, 1, 1, 3)}},
		{"a newline at the end", "ab\n", 2, []api.Line{line("ab", 2, 0, 2, 2), line("", 0, 3, 0, 3)}},
		{"a newline right behind a full line", "ab\ncd", 2, []api.Line{line("ab", 2, 0, 2, 2), line("cd", 2, 3, 2, 3)}},
		{"a rest is no longer than its paragraph", "a\nb", 9, []api.Line{line("a", 1, 0, 1, 2), line("b", 1, 2, 1, 3)}},

		{"a cluster wider than the line", "水", 1, []api.Line{line(" ", 1, 0, 1, 1), line("", 0, 1, 0, 3)}},
		{"two of them", "水水", 1, []api.Line{line(" ", 1, 0, 1, 1), line(" ", 1, 1, 1, 1), line("", 0, 2, 0, 3)}},
		{"one between others", "a水b", 1, []api.Line{line("a", 1, 0, 1, 1), line(" ", 1, 1, 1, 1), line("b", 1, 2, 1, 3)}},
		{"one ahead of a newline", "水\na", 1, []api.Line{line(" ", 1, 0, 1, 1), line("", 0, 1, 0, 2), line("a", 1, 2, 1, 3)}},
		{"one ahead of a blank, which stays", "水 a", 1, []api.Line{line(" ", 1, 0, 1, 1), line("", 0, 1, 0, 0), line("a", 1, 2, 1, 3)}},
		{"one behind a blank, which goes", "a 水", 1, []api.Line{line("a", 1, 0, 1, 0), line(" ", 1, 2, 1, 1), line("", 0, 3, 0, 3)}},
		{"one with a mark", "水\u0301a", 1, []api.Line{line(" ", 1, 0, 1, 1), line("a", 1, 1, 1, 3)}},

		{"of blanks behind only one goes", "ab  cd", 2, []api.Line{line("ab", 2, 0, 2, 0), line("", 0, 3, 0, 0), line("cd", 2, 4, 2, 3)}},
		{"a blank behind, ahead of one among them", "a b cd", 3, []api.Line{line("a b", 3, 0, 3, 0), line("cd", 2, 4, 2, 3)}},
		{"a blank at the text's end goes", "ab ", 2, []api.Line{line("ab", 2, 0, 2, 0), line("", 0, 3, 0, 3)}},
		{"a blank at the paragraph's end goes", "ab \nc", 2, []api.Line{line("ab", 2, 0, 2, 0), line("", 0, 3, 0, 2), line("c", 1, 4, 1, 3)}},
		{"blanks alone", "   ", 1, []api.Line{line(" ", 1, 0, 1, 0), line(" ", 1, 2, 1, 3)}},

		{"a blank among them", "ab cd", 4, []api.Line{line("ab", 2, 0, 2, 0), line("cd", 2, 3, 2, 3)}},
		{"the last blank among them", "a b cd", 5, []api.Line{line("a b", 3, 0, 3, 0), line("cd", 2, 4, 2, 3)}},
		{"blanks ahead of the last one stay", "a  bcd", 4, []api.Line{line("a ", 2, 0, 2, 0), line("bcd", 3, 3, 3, 3)}},
		{"the blank among them is the first one", " abc", 2, []api.Line{line("", 0, 0, 0, 0), line("ab", 2, 1, 2, 1), line("c", 1, 3, 1, 3)}},
		{"the blank among them is the last one", "ab cd", 3, []api.Line{line("ab", 2, 0, 2, 0), line("cd", 2, 3, 2, 3)}},
		{"a wide one does not fit behind a blank", "a 水", 3, []api.Line{line("a", 1, 0, 1, 0), line("水", 2, 2, 1, 3)}},

		{"within a word", "abcdef", 4, []api.Line{line("abcd", 4, 0, 4, 1), line("ef", 2, 4, 2, 3)}},
		{"within a word, many times", "abcde", 2, []api.Line{line("ab", 2, 0, 2, 1), line("cd", 2, 2, 2, 1), line("e", 1, 4, 1, 3)}},
		{"wide ones leave a column", "水水", 3, []api.Line{line("水", 2, 0, 1, 1), line("水", 2, 1, 1, 3)}},

		{"marks count for nothing", "a\u0301b\u0302", 1, []api.Line{line("a\u0301", 1, 0, 1, 1), line("b\u0302", 1, 1, 1, 3)}},
		{"marks beyond the fourth are left out", "a\u0301\u0302\u0303\u0304\u0305", 1, []api.Line{line("a\u0301\u0302\u0303\u0304", 1, 0, 1, 3)}},
		{"a blank with a mark parts nothing", "a \u0301b", 2, []api.Line{line("a \u0301", 2, 0, 2, 1), line("b", 1, 2, 1, 3)}},
		{"a blank with a mark behind stays", "ab \u0301", 2, []api.Line{line("ab", 2, 0, 2, 1), line(" \u0301", 1, 2, 1, 3)}},
		{"a mark without a base", "\u0301\n\u0301", 2, []api.Line{line(" \u0301", 1, 0, 1, 2), line(" \u0301", 1, 2, 1, 3)}},
		{"other spaces part nothing", "a\u00A0\u2003b", 3, []api.Line{line("a\u00A0\u2003", 3, 0, 3, 1), line("b", 1, 3, 1, 3)}},
		{"controls and broken bytes", "\t\xFF\r", 2, []api.Line{line("\uFFFD\uFFFD", 2, 0, 2, 1), line("\uFFFD", 1, 2, 1, 3)}},

		{"no width", "ab", 0, nil},
		{"no width, no text", "", 0, nil},
		{"a width below 0", "a\nb", -1, nil},
		{"the least width", "ab", math.MinInt, nil},
		{"the greatest width", "水 a\nb", math.MaxInt, []api.Line{line("水 a", 4, 0, 3, 2), line("b", 1, 4, 1, 3)}},
	} {
		if got := Lines(c.text, c.w); !slices.Equal(got, c.want) {
			t.Errorf("%s: Lines(%q, %d) = %#v, want %#v", c.name, c.text, c.w, got, c.want)
		}
		if got := Count(c.text, c.w); got != len(c.want) {
			t.Errorf("%s: Count(%q, %d) = %d, want %d", c.name, c.text, c.w, got, len(c.want))
		}
	}
}

// linesByParagraph is F1 read a second time: paragraph by paragraph, with n
// sought from the greatest number down.
func linesByParagraph(s string, w int) []api.Line {
	if w < 1 {
		return nil
	}
	var all []api.Line
	at := 0
	paragraphs := strings.Split(s, "\n")
	for k, p := range paragraphs {
		rest := glyph.Clusters(p)
		add := func(text string, width, n, dropped, end int) {
			all = append(all, line(text, width, at, n, end))
			at += n + dropped
			rest = rest[n+dropped:]
		}
		for {
			n := len(rest)
			for widthOf(rest[:n]) > w {
				n--
			}
			if n == len(rest) && k == len(paragraphs)-1 {
				add(join(rest), widthOf(rest), n, 0, 3)
				break
			}
			if n == len(rest) {
				add(join(rest), widthOf(rest), n, 0, 2)
				at++
				break
			}
			last := n
			for last >= 0 && rest[last].Text != " " {
				last--
			}
			if n == 0 {
				add(strings.Repeat(" ", w), w, 1, 0, 1)
			} else if last >= 0 {
				add(join(rest[:last]), widthOf(rest[:last]), last, 1, 0)
			} else {
				add(join(rest[:n]), widthOf(rest[:n]), n, 0, 1)
			}
		}
	}
	return all
}

func widthOf(l []api.Cluster) int {
	sum := 0
	for _, c := range l {
		sum += c.W
	}
	return sum
}

func join(l []api.Cluster) string {
	s := ""
	for _, c := range l {
		s += c.Text
	}
	return s
}

// textsOf answers every text of up to that many pieces.
func textsOf(pieces []string, most int) []string {
	all := []string{""}
	last := all
	for range most {
		var longer []string
		for _, s := range last {
			for _, p := range pieces {
				longer = append(longer, s+p)
			}
		}
		all = append(all, longer...)
		last = longer
	}
	return all
}

func TestLinesOfManyTexts(t *testing.T) {
	for _, s := range textsOf([]string{"a", " ", "水", "\n", "\u0301"}, 6) {
		for w := range 7 {
			want := linesByParagraph(s, w)
			if got := Lines(s, w); !slices.Equal(got, want) {
				t.Fatalf("Lines(%q, %d) = %#v, want %#v", s, w, got, want)
			}
			if got := Count(s, w); got != len(want) {
				t.Fatalf("Count(%q, %d) = %d, want %d", s, w, got, len(want))
			}
		}
	}
}

func TestLinesOfALongText(t *testing.T) {
	s := strings.Repeat(strings.Repeat("a", 299)+" ", 400) + strings.Repeat("\n", 1000)
	for _, c := range []struct{ w, want int }{
		{1, 299*400 + 1 + 1000},   // the last blank leaves an empty line
		{299, 400 + 1 + 1000},     // a word a line, and as before
		{300, 400 + 1000},         // the last blank stands behind its word
		{598, 400 + 1000},         // two words would take a column more
		{599, 200 + 1 + 1000},     // two words a line
		{600, 200 + 1000},         // with the blank behind the last two
		{400 * 300 / 2, 2 + 1000}, // half of the words a line
		{400*300 - 2, 2 + 1000},   // the last word stands alone
		{400*300 - 1, 2 + 1000},   // its blank leaves an empty line
		{400 * 300, 1 + 1000},     // a line a paragraph
		{math.MaxInt, 1 + 1000},
	} {
		if got := Count(s, c.w); got != c.want {
			t.Errorf("at %d: Count = %d, want %d", c.w, got, c.want)
		}
		if got := len(Lines(s, c.w)); got != c.want {
			t.Errorf("at %d: %d lines, want %d", c.w, got, c.want)
		}
	}
}

func TestWhoHasEnoughStopsTheLines(t *testing.T) {
	s, w := "ab cd\n\nefghi 水", 2
	all := Lines(s, w)
	for enough := 1; enough <= len(all); enough++ {
		var got []api.Line
		for line := range each(s, w) {
			got = append(got, line)
			if len(got) == enough {
				break
			}
		}
		if !slices.Equal(got, all[:enough]) {
			t.Errorf("stopped behind %d: %#v, want %#v", enough, got, all[:enough])
		}
	}
}

func TestLinesAnswerNewMemory(t *testing.T) {
	first, second := Lines("a b", 1), Lines("a b", 1)
	first[0] = line("z", 9, 9, 9, 9)
	if second[0] != line("a", 1, 0, 1, 0) {
		t.Errorf("a change of one answer is seen in another: %#v", second)
	}
}
