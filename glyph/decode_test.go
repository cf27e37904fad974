package glyph

import (
	"slices"
	"strings"
	"testing"
)

// A form is one row of G1's list of right sequences: the bounds of each byte.
type form [][2]byte

var more = [2]byte{0x80, 0xBF}

var forms = []form{
	{{0x00, 0x7F}},
	{{0xC2, 0xDF}, more},
	{{0xE0, 0xE0}, {0xA0, 0xBF}, more},
	{{0xE1, 0xEC}, more, more},
	{{0xEE, 0xEF}, more, more},
	{{0xED, 0xED}, {0x80, 0x9F}, more},
	{{0xF0, 0xF0}, {0x90, 0xBF}, more, more},
	{{0xF1, 0xF3}, more, more, more},
	{{0xF4, 0xF4}, {0x80, 0x8F}, more, more},
}

func (f form) begins(s string) bool {
	if len(s) < len(f) {
		return false
	}
	for i, b := range f {
		if s[i] < b[0] || s[i] > b[1] {
			return false
		}
	}
	return true
}

// lowBits is how many bits the first byte of a sequence gives, by its length.
var lowBits = [5]int{1: 7, 2: 5, 3: 4, 4: 3}

func (f form) value(s string) int {
	r := int(s[0]) & (1<<lowBits[len(f)] - 1)
	for i := 1; i < len(f); i++ {
		r = r<<6 | int(s[i])&0x3F
	}
	return r
}

// decodeByForms reads a text by G1's list alone, without the language's help.
func decodeByForms(s string) []int {
	var runes []int
	for len(s) > 0 {
		r, n := 0xFFFD, 1
		for _, f := range forms {
			if f.begins(s) {
				r, n = f.value(s), len(f)
			}
		}
		if r <= 31 && r != 10 || r >= 127 && r <= 159 {
			r = 0xFFFD
		}
		runes, s = append(runes, r), s[n:]
	}
	return runes
}

func TestDecode(t *testing.T) {
	const bad = 0xFFFD
	for _, c := range []struct {
		name, text string
		want       []int
	}{
		{"nothing", "", nil},
		{"plain letters", "ab ~", []int{'a', 'b', ' ', '~'}},
		{"a newline stays", "a\nb", []int{'a', 10, 'b'}},
		{"one to four bytes", "aé水😀", []int{'a', 0xE9, 0x6C34, 0x1F600}},

		{"two bytes, least that is shown", "\xC2\xA0", []int{0xA0}},
		{"two bytes, greatest", "\xDF\xBF", []int{0x7FF}},
		{"E0, least", "\xE0\xA0\x80", []int{0x800}},
		{"E0, greatest", "\xE0\xBF\xBF", []int{0xFFF}},
		{"E1, least", "\xE1\x80\x80", []int{0x1000}},
		{"EC, greatest", "\xEC\xBF\xBF", []int{0xCFFF}},
		{"ED, least", "\xED\x80\x80", []int{0xD000}},
		{"ED, greatest", "\xED\x9F\xBF", []int{0xD7FF}},
		{"EE, least", "\xEE\x80\x80", []int{0xE000}},
		{"EF, greatest", "\xEF\xBF\xBF", []int{0xFFFF}},
		{"F0, least", "\xF0\x90\x80\x80", []int{0x10000}},
		{"F0, greatest", "\xF0\xBF\xBF\xBF", []int{0x3FFFF}},
		{"F1, least", "\xF1\x80\x80\x80", []int{0x40000}},
		{"F3, greatest", "\xF3\xBF\xBF\xBF", []int{0xFFFFF}},
		{"F4, least", "\xF4\x80\x80\x80", []int{0x100000}},
		{"F4, greatest", "\xF4\x8F\xBF\xBF", []int{0x10FFFF}},
		{"U+FFFD itself", "\xEF\xBF\xBD", []int{bad}},

		{"controls", "\x00\x09\x0B\x1B\x1F", []int{bad, bad, bad, bad, bad}},
		{"controls' neighbours", "\x1F \x7E\x7F", []int{bad, ' ', '~', bad}},
		{"controls of two bytes", "\u0080\u009F\u00A0", []int{bad, bad, 0xA0}},

		{"more alone", "\x80\xBF", []int{bad, bad}},
		{"C0 and C1", "\xC0\x80\xC1\xBF", []int{bad, bad, bad, bad}},
		{"too small behind E0", "\xE0\x9F\xBF", []int{bad, bad, bad}},
		{"too great behind ED", "\xED\xA0\x80", []int{bad, bad, bad}},
		{"too small behind F0", "\xF0\x8F\xBF\xBF", []int{bad, bad, bad, bad}},
		{"too great behind F4", "\xF4\x90\x80\x80", []int{bad, bad, bad, bad}},
		{"F5 and FF", "\xF5\x80\x80\x80\xFF", []int{bad, bad, bad, bad, bad}},

		{"cut short by the end, of two", "\xDF", []int{bad}},
		{"cut short by the end, of three", "\xE2\x82", []int{bad, bad}},
		{"cut short by the end, of four", "\xF0\x9F\x98", []int{bad, bad, bad}},
		{"cut short by a letter", "\xE2\x82a", []int{bad, bad, 'a'}},
		{"cut short by a right sequence", "\xF0\x9F\xC3\xA9", []int{bad, bad, 0xE9}},
	} {
		if got := Decode(c.text); !slices.Equal(got, c.want) {
			t.Errorf("%s: Decode(%q) = %X, want %X", c.name, c.text, got, c.want)
		}
	}
}

// Every text of up to four bytes that stand at a bound of G1 or right beside it.
func TestDecodeKeepsToTheForms(t *testing.T) {
	const bounds = "\x00\x0A\x0B\x1F\x20\x7E\x7F\x80\x8F\x90\x9F\xA0\xBF\xC0\xC1\xC2\xDF\xE0\xE1\xEC\xED\xEE\xEF\xF0\xF1\xF3\xF4\xF5\xFF"
	texts := []string{""}
	for length := 1; length <= 4; length++ {
		var longer []string
		for _, s := range texts {
			for i := range len(bounds) {
				longer = append(longer, s+bounds[i:i+1])
			}
		}
		texts = longer
		for _, s := range texts {
			if got, want := Decode(s), decodeByForms(s); !slices.Equal(got, want) {
				t.Fatalf("Decode(%q) = %X, want %X", s, got, want)
			}
		}
	}
}

func TestDecodeTellsEveryRune(t *testing.T) {
	for r := 0; r <= 0x10FFFF; r++ {
		want := r
		if r <= 31 && r != 10 || r >= 127 && r <= 159 || r >= 0xD800 && r <= 0xDFFF {
			want = 0xFFFD
		}
		if got := Decode(Encode([]int{r})); !slices.Equal(got, []int{want}) {
			t.Fatalf("Decode of U+%04X = %X, want %X", r, got, want)
		}
	}
}

func TestDecodeAnswersNewMemory(t *testing.T) {
	first, second := Decode("ab"), Decode("ab")
	first[0] = 'z'
	if second[0] != 'a' {
		t.Error("two answers share their memory")
	}
}

func TestDecodeOfALongText(t *testing.T) {
	if n := len(Decode(strings.Repeat("水\xE6", 100000))); n != 200000 {
		t.Errorf("%d runes, want 200000", n)
	}
}
