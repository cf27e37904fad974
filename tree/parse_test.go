package tree

import (
	"errors"
	"reflect"
	"strconv"
	"strings"
	"testing"

	"pane/api"
)

const (
	row = iota
	col
	stack
	box
	scroll
	text
	gap
)

// bare is a node as it is without attributes.
func bare(kind, up int, kids ...int) api.Node {
	return api.Node{Kind: kind, Up: up, Kids: kids, Max: -1, Weight: 1, Border: 1, Wrap: 1}
}

// with is a node with something more.
func with(node api.Node, change func(*api.Node)) api.Node {
	change(&node)
	return node
}

func saying(said string, up int) api.Node {
	return with(bare(text, up), func(n *api.Node) { n.Text = said })
}

func alike(a, b []api.Node) bool {
	if len(a) != len(b) {
		return false
	}
	for i := range a {
		left, right := a[i], b[i]
		// Whether a list without anything in it is nil is not said.
		if len(left.Kids) == 0 && len(right.Kids) == 0 {
			left.Kids, right.Kids = nil, nil
		}
		if !reflect.DeepEqual(left, right) {
			return false
		}
	}
	return true
}

func wantNodes(t *testing.T, s string, want []api.Node) {
	t.Helper()
	nodes, errno, place := Parse(s)
	if errno != api.OK || place != 0 {
		t.Errorf("Parse(%q) answers %d at %d, want OK and 0", s, errno, place)
	} else if !alike(nodes, want) {
		t.Errorf("Parse(%q) = %+v, want %+v", s, nodes, want)
	}
}

// wantFault asks Parse and Print: both have the same errors.
func wantFault(t *testing.T, s string, want api.Errno, at int) {
	t.Helper()
	nodes, errno, place := Parse(s)
	if errno != want || place != at {
		t.Errorf("Parse(%.200q) answers %d at %d, want %d at %d", s, errno, place, want, at)
	}
	if nodes != nil {
		t.Errorf("Parse(%.200q) answers nodes beside an error", s)
	}
	printed, errno, place := Print(s)
	if printed != "" || errno != want || place != at {
		t.Errorf("Print(%.200q) = %.200q, %d at %d, want nothing and %d at %d", s, printed, errno, place, want, at)
	}
}

func TestParseNodes(t *testing.T) {
	for _, c := range []struct {
		name, text string
		want       []api.Node
	}{
		{"a gap", "gap", []api.Node{bare(gap, -1)}},
		{"a text", `text"ab"`, []api.Node{saying("ab", -1)}},
		{"an empty text", `text""`, []api.Node{saying("", -1)}},
		{"an empty row", "row[]", []api.Node{bare(row, -1)}},
		{"an empty col", "col[]", []api.Node{bare(col, -1)}},
		{"an empty stack", "stack[]", []api.Node{bare(stack, -1)}},
		{"a box", "box[gap]", []api.Node{bare(box, -1, 1), bare(gap, 0)}},
		{"a scroll", "scroll[gap]", []api.Node{bare(scroll, -1, 1), bare(gap, 0)}},
		{"one kid", "row[gap]", []api.Node{bare(row, -1, 1), bare(gap, 0)}},
		{"two kids", "col[gap,gap]", []api.Node{bare(col, -1, 1, 2), bare(gap, 0), bare(gap, 0)}},
		{"three kids", "stack[gap,gap,gap]", []api.Node{bare(stack, -1, 1, 2, 3), bare(gap, 0), bare(gap, 0), bare(gap, 0)}},
		{"the document's example", `row{gap=1}[text{weight=0}"Name:",box{id=7}[text"水"]]`, []api.Node{
			with(bare(row, -1, 1, 2), func(n *api.Node) { n.Gap = 1 }),
			with(saying("Name:", 0), func(n *api.Node) { n.Weight = 0 }),
			with(bare(box, 0, 3), func(n *api.Node) { n.Id = 7 }),
			saying("水", 2),
		}},
		{"kids of kids stand between kids", "row[col[gap,row[]],gap,box[stack[gap]],gap]", []api.Node{
			bare(row, -1, 1, 4, 5, 8),
			bare(col, 0, 2, 3), bare(gap, 1), bare(row, 1),
			bare(gap, 0),
			bare(box, 0, 6), bare(stack, 5, 7), bare(gap, 6),
			bare(gap, 0),
		}},
		{"a kind's name is an attribute's too", "row{gap=3}[gap]", []api.Node{with(bare(row, -1, 1), func(n *api.Node) { n.Gap = 3 }), bare(gap, 0)}},
		{"attributes in any order", "box{bold=1;pad=2;border=0;bg=3;fg=4;weight=5;max=6;min=7;id=8}[gap]", []api.Node{
			{Kind: box, Id: 8, Min: 7, Max: 6, Weight: 5, Pad: 2, Border: 0, Wrap: 1, Fg: 4, Bg: 3, Bold: 1, Kids: []int{1}, Up: -1},
			bare(gap, 0),
		}},
		{"attributes of a text", `text{align=2;wrap=0}"a"`, []api.Node{with(saying("a", -1), func(n *api.Node) { n.Align, n.Wrap = 2, 0 })}},
		{"signs within a string are no signs", `row[text"a],gap{id=1}[",gap]`, []api.Node{bare(row, -1, 1, 2), saying("a],gap{id=1}[", 0), bare(gap, 0)}},
		{"a min above its max", "gap{min=9;max=3}", []api.Node{with(bare(gap, -1), func(n *api.Node) { n.Min, n.Max = 9, 3 })}},
	} {
		t.Run(c.name, func(t *testing.T) { wantNodes(t, c.text, c.want) })
	}
}

func TestParseBlanks(t *testing.T) {
	signs := []string{"row", "{", "id", "=", "12", ";", "gap", "=", "0", "}", "[", "text", "{", "fg", "=", "3", "}", `"a b"`, ",", "box", "[", "gap", "]", ",", "col", "[", "]", "]"}
	want := []api.Node{
		with(bare(row, -1, 1, 2, 4), func(n *api.Node) { n.Id = 12 }),
		with(saying("a b", 0), func(n *api.Node) { n.Fg = 3 }),
		bare(box, 0, 3), bare(gap, 2), bare(col, 0),
	}
	for _, between := range []string{"", " ", "\n", " \n", "\n\n   \n"} {
		wantNodes(t, strings.Join(signs, between), want)
		wantNodes(t, between+strings.Join(signs, between)+between, want)
		for i := range signs {
			wantNodes(t, strings.Join(signs[:i], "")+between+strings.Join(signs[i:], ""), want)
		}
	}
}

func TestParseOtherBlanksAreNone(t *testing.T) {
	for b := range 256 {
		if b == ' ' || b == '\n' {
			continue
		}
		other := string([]byte{byte(b)})
		wantFault(t, "row[]"+other, api.ErrText, 5)
		if b != ']' {
			wantFault(t, "row[ "+other, api.ErrText, 5)
		}
		if 'a' > b || b > 'z' {
			wantFault(t, other+"gap", api.ErrText, 0)
			if b != '[' && b != '{' {
				wantFault(t, "row"+other+"[]", api.ErrText, 3)
			}
			if b != ']' {
				wantFault(t, "row["+other, api.ErrText, 4)
			}
		}
	}
}

func TestParseStrings(t *testing.T) {
	for _, c := range []struct{ name, text, want string }{
		{"an escaped quote", `\"`, `"`},
		{"an escaped escape", `\\`, `\`},
		{"an escaped newline", `\n`, "\n"},
		{"a newline as it is", "\n", "\n"},
		{"all of them", `a\"b\\c\nd` + "\ne", "a\"b\\c\nd\ne"},
		{"an escaped escape ahead of an n", `\\n`, `\n`},
		{"an escaped escape ahead of an escaped quote", `\\\"`, `\"`},
		{"two newlines", `\n\n`, "\n\n"},
		{"blanks stay", "  a  ", "  a  "},
		{"what is no UTF-8", "\xff\x80\xe6\xb0", "\xff\x80\xe6\xb0"},
		{"controls", "\x00\t\r\x1b\x7f", "\x00\t\r\x1b\x7f"},
		{"runes", "e\u0301水", "e\u0301水"},
	} {
		t.Run(c.name, func(t *testing.T) {
			wantNodes(t, `text"`+c.text+`"`, []api.Node{saying(c.want, -1)})
		})
	}
}

func TestParseAnyByteInStrings(t *testing.T) {
	for b := range 256 {
		one := string([]byte{byte(b)})
		if b != '"' && b != '\\' {
			wantNodes(t, `text"a`+one+`b"`, []api.Node{saying("a"+one+"b", -1)})
		}
		if b != '"' && b != '\\' && b != 'n' {
			wantFault(t, `text"a\`+one+`b"`, api.ErrText, 7)
			wantFault(t, `text"a\`+one, api.ErrText, 7)
		}
	}
}

func TestParseNoTree(t *testing.T) {
	for _, c := range []struct {
		name, text string
		place      int
	}{
		{"nothing", "", 0},
		{"blanks alone", " \n ", 3},
		{"no word", "{", 0},
		{"no word behind blanks", "  [", 2},
		{"a great letter", "Row[]", 0},
		{"a digit", "1", 0},
		{"a word that is no kind", "rows[]", 0},
		{"a word that is no kind, behind blanks", "  rows[]", 2},
		{"a word that no kind begins with", "xyz", 0},
		{"two kinds without a blank", "gapgap", 0},
		{"the beginning of a kind", "ro", 0},
		{"the beginning of a kind, and what is no letter", "ro[]", 0},
		{"a kind in two", "ro w[]", 0},
		{"a kind, a great letter behind it", "gapX", 3},
		{"a kind, a digit behind it", "row1[]", 3},
		{"an attribute's name", "min", 0},
		{"a word that is no kind, of a kid", "row[gap,gup]", 8},
		{"a word that is no kind, of the first kid", "row[rox]", 4},
		{"the beginning of a kind, of a kid", "row[ga", 4},
		{"a word that is no kind, in a box", "box[gappy]", 4},

		{"two trees", "gap gap", 4},
		{"two trees, the first one in brackets", "row[]row[]", 5},
		{"a comma behind the tree", "gap,", 3},
		{"a bracket behind the tree", "row[]]", 5},
		{"a string behind the tree", `text"a""b"`, 7},
		{"braces behind the body", "row[]{id=1}", 5},

		{"a row alone", "row", 3},
		{"a row alone, a blank behind it", "row ", 4},
		{"a row with braces alone", "row{id=1}", 9},
		{"a row with a string", `row"a"`, 3},
		{"a row in round brackets", "row()", 3},
		{"a row that does not end", "row[", 4},
		{"a row that does not end, behind a kid", "row[gap", 7},
		{"a row that does not end, behind a comma", "row[gap,", 8},
		{"a comma ahead of the kids", "row[,gap]", 4},
		{"a comma behind the kids", "row[gap,]", 8},
		{"two commas", "row[gap,,gap]", 8},
		{"no comma", "row[gap gap]", 8},
		{"a semicolon between kids", "row[gap;gap]", 7},
		{"a wrong end", "row[gap}", 7},
		{"a row ends once", "row[row[]", 9},

		{"a box alone", "box", 3},
		{"an empty box", "box[]", 4},
		{"an empty scroll", "scroll[ ]", 8},
		{"a box of two", "box[gap,gap]", 7},
		{"a scroll of two", "scroll[gap gap]", 11},
		{"a box that does not end", "box[gap", 7},
		{"a box that does not begin", "box gap", 4},

		{"a text alone", "text", 4},
		{"a text with brackets", "text[]", 4},
		{"a text without quotes", "text a", 5},
		{"a text in single quotes", "text'a'", 4},
		{"a string that does not end", `text"a`, 6},
		{"a string that does not end, empty", `text"`, 5},
		{"a string that does not end, behind an escape", `text"a\`, 7},
		{"a string that does not end, behind an escaped quote", `text"a\"`, 8},
		{"an unknown escape", `text"a\tb"`, 7},
		{"a great N behind the escape", `text"\N"`, 6},
		{"a blank behind the escape", `text"\ n"`, 6},
		{"a newline behind the escape", "text\"\\\n\"", 6},
		{"the second of two escapes is unknown", `text"\n\x"`, 8},

		{"a gap with brackets", "gap[]", 3},
		{"a gap with a string", `gap""`, 3},

		{"empty braces", "gap{}", 4},
		{"empty braces, a blank between", "gap{ }", 5},
		{"braces that do not end", "gap{", 4},
		{"braces that do not end, behind a name", "gap{min", 7},
		{"braces that do not end, behind the beginning of a name", "gap{mi", 6},
		{"braces that do not end, behind the sign", "gap{min=", 8},
		{"braces that do not end, behind a number", "gap{min=1", 9},
		{"braces that do not end, behind a zero", "gap{min=0", 9},
		{"braces that do not end, behind a semicolon", "gap{min=1;", 10},
		{"a semicolon ahead", "gap{;min=1}", 4},
		{"a semicolon behind", "gap{min=1;}", 10},
		{"two semicolons", "gap{min=1;;max=1}", 10},
		{"a comma between", "gap{min=1,max=2}", 9},
		{"nothing between", "gap{min=1max=2}", 9},
		{"a bracket at the end", "gap{min=1]", 9},
		{"braces twice", "gap{min=1}{max=2}", 10},
		{"no name", "gap{=1}", 4},
		{"a great letter in a name", "gap{miN=1}", 6},
		{"a name in great letters", "gap{MIN=1}", 4},
		{"a digit in a name", "gap{min2=1}", 7},
		{"no sign", "gap{min 1}", 8},
		{"another sign", "gap{min:1}", 7},
		{"the sign twice", "gap{min==1}", 8},
		{"no number", "gap{min=}", 8},
		{"a word for a number", "gap{min=one}", 8},
		{"a number below 0", "gap{min=-1}", 8},
		{"a number with its sign", "gap{min=+1}", 8},
		{"a fraction", "gap{min=1.5}", 9},
		{"a letter behind a number", "gap{min=1e3}", 9},
		{"two numbers", "gap{min=1 2}", 10},

		{"a needless zero", "gap{min=01}", 8},
		{"zeros alone", "gap{min=00}", 8},
		{"a needless zero at the end", "gap{min=01", 8},
		{"seven digits", "gap{min=1234567}", 8},
		{"seven digits at the end", "gap{min=1234567", 8},
		{"seven digits, six of them needless", "gap{min=0000001}", 8},
		{"many digits", "gap{min=99999999999999999999999}", 8},
		{"seven digits of a name that no kind has", "gap{none=1234567}", 9},
		{"a needless zero behind blanks", "gap{min= 01}", 9},

		{"no tree behind a name that no kind has", "gap{none=1}!", 11},
		{"no tree behind a name that stands twice", "gap{min=1;min=1", 15},
		{"no tree behind a number above", "gap{min=100001", 14},
		{"no tree behind an id that stands twice", "row[gap{id=1},gap{id=1}", 23},
		{"no tree behind a node too deep", strings.Repeat("box[", 12) + "gap", 51},
		{"no tree behind a node too many", "row[" + strings.Repeat("gap,", 100) + "]", 404},
		{"no tree, much too deep", strings.Repeat("box[", 1000), 4000},
		{"no tree, wrong at its end alone", "row[" + strings.Repeat(" ", 3995) + "!", 3999},
	} {
		t.Run(c.name, func(t *testing.T) { wantFault(t, c.text, api.ErrText, c.place) })
	}
}

// Of a tree's beginning only more could make a tree; but in the midst of a kind's word it has a word that is no kind.
func TestParseBeginnings(t *testing.T) {
	s := `row{id=1;x=2}[text"a\"",box[gap]]`
	inKinds := map[int]int{1: 0, 2: 0, 15: 14, 16: 14, 17: 14, 25: 24, 26: 24, 29: 28, 30: 28}
	for n := range s {
		place, ok := inKinds[n]
		if !ok {
			place = n
		}
		wantFault(t, s[:n], api.ErrText, place)
	}
	wantFault(t, s, api.ErrNone, 9)
}

func TestParseLong(t *testing.T) {
	blanks := func(n int) string { return strings.Repeat(" ", n) }
	letters := strings.Repeat("a", 4000-len(`text""`))
	wantNodes(t, `text"`+letters+`"`, []api.Node{saying(letters, -1)})
	wantNodes(t, "gap"+blanks(3997), []api.Node{bare(gap, -1)})
	wantFault(t, blanks(4000), api.ErrText, 4000)

	wantFault(t, `text"a`+letters+`"`, api.ErrLong, 0)
	wantFault(t, "gap"+blanks(3998), api.ErrLong, 0)
	wantFault(t, blanks(4001), api.ErrLong, 0)
	wantFault(t, "!"+blanks(4000), api.ErrLong, 0)
	wantFault(t, "gap{none=1}"+blanks(4000), api.ErrLong, 0)
	wantFault(t, strings.Repeat("box[", 1000000), api.ErrLong, 0)
}

func TestParseManyAndDeep(t *testing.T) {
	inRow := func(n int, more string) string { return "row[" + strings.Repeat("gap,", n) + more + "]" }
	within := func(n int, s string) string { return strings.Repeat("box[", n) + s + strings.Repeat("]", n) }

	nodes, errno, place := Parse(inRow(98, "gap"))
	if errno != api.OK || place != 0 || len(nodes) != 100 {
		t.Errorf("a hundred nodes: %d nodes, %d at %d", len(nodes), errno, place)
	}
	nodes, errno, place = Parse(within(11, "gap"))
	if errno != api.OK || place != 0 || len(nodes) != 12 {
		t.Errorf("a node with eleven around it: %d nodes, %d at %d", len(nodes), errno, place)
	}
	for _, c := range []struct {
		name, text string
		want       api.Errno
		place      int
	}{
		{"a node too many", inRow(99, "gap"), api.ErrMany, 400},
		{"a node too many, behind a blank", inRow(99, " gap"), api.ErrMany, 401},
		{"two nodes too many", inRow(100, "gap"), api.ErrMany, 400},
		{"a node too many, within another", inRow(98, "box[gap]"), api.ErrMany, 400},
		{"a node too many in a stack", strings.Replace(inRow(99, "gap"), "row", "stack", 1), api.ErrMany, 402},
		{"a node too deep", within(12, "gap"), api.ErrDeep, 48},
		{"a row too deep", within(12, "row[]"), api.ErrDeep, 48},
		{"two nodes too deep", within(13, "gap"), api.ErrDeep, 48},
		{"a node much too deep", within(799, "gap"), api.ErrDeep, 48},
		{"a node too deep in rows", strings.Repeat("row[gap,", 12) + "gap" + strings.Repeat("]", 12), api.ErrDeep, 92},
		{"too many and too deep at one place: the one named first", inRow(88, within(11, "gap")), api.ErrMany, 4 + 88*4 + 11*4},
		{"too deep as the last one that may be", inRow(87, within(11, "gap")), api.ErrDeep, 4 + 87*4 + 11*4},
		{"too deep ahead of too many", "row[" + within(11, "gap") + strings.Repeat(",gap", 99) + "]", api.ErrDeep, 4 + 11*4},
		{"too many ahead of too deep", inRow(99, "gap,"+within(11, "gap")), api.ErrMany, 400},
	} {
		t.Run(c.name, func(t *testing.T) { wantFault(t, c.text, c.want, c.place) })
	}
}

func TestParseFaultsOfAttributes(t *testing.T) {
	for _, c := range []struct {
		name, text string
		want       api.Errno
		place      int
	}{
		{"a name that no kind has", "gap{none=1}", api.ErrNone, 4},
		{"a name that no kind has, with blanks", "gap { none = 1 }", api.ErrNone, 6},
		{"a kind's name", "gap{row=1}", api.ErrNone, 4},
		{"the beginning of a name", "gap{mi=1}", api.ErrNone, 4},
		{"a name and a letter", "gap{mins=1}", api.ErrNone, 4},
		{"two names in one word", "gap{minmax=1}", api.ErrNone, 4},
		{"a long word", "gap{" + strings.Repeat("a", 3000) + "=1}", api.ErrNone, 4},
		{"a name of other kinds", "box{gap=1}[gap]", api.ErrNone, 4},
		{"behind one that it has", `text{min=1;pad=1}"a"`, api.ErrNone, 11},
		{"of a kid", "row[gap,gap{wrap=1}]", api.ErrNone, 12},

		{"a name twice", "gap{min=1;min=2}", api.ErrTwice, 10},
		{"a name twice, with the same number", "gap{min=1;min=1}", api.ErrTwice, 10},
		{"a name twice, as without", "gap{min=0;min=0}", api.ErrTwice, 10},
		{"a name twice, others between", "gap{min=1;max=2;fg=3;min=4}", api.ErrTwice, 21},
		{"a name twice, with blanks", "gap{ min=1; min=2}", api.ErrTwice, 12},
		{"the name id twice", "gap{id=1;id=1}", api.ErrTwice, 9},
		{"the name id twice, with 0", "gap{id=0;id=0}", api.ErrTwice, 9},
		{"a name thrice", "gap{fg=1;fg=2;fg=3}", api.ErrTwice, 9},

		{"a number above", "gap{min=100001}", api.ErrRange, 8},
		{"the greatest number", "gap{min=999999}", api.ErrRange, 8},
		{"a number above, with blanks", "gap{min = 100001}", api.ErrRange, 10},
		{"a number above, of the second name", "gap{min=1;bold=2}", api.ErrRange, 15},

		{"an id twice", "row[gap{id=3},gap{id=3}]", api.ErrTwice, 21},
		{"an id twice, with blanks", "row[gap{id=3},gap{id= 3}]", api.ErrTwice, 22},
		{"an id twice, of a node and its kid", "row{id=3}[gap{id=3}]", api.ErrTwice, 17},
		{"an id twice, of a node and the kid of its kid", "row{id=3}[box[gap{id=3}]]", api.ErrTwice, 21},
		{"an id twice, others between", "row[box[gap{id=3}],gap{id=4},gap,gap{id=3}]", api.ErrTwice, 40},
		{"the greatest id twice", "row[gap{id=999999},gap{id=999999}]", api.ErrTwice, 26},

		{"a name that it has not, twice: the first place", "gap{pad=1;pad=1}", api.ErrNone, 4},
		{"a name that it has not, with a number above", "gap{pad=21}", api.ErrNone, 4},
		{"a name twice, the second one with a number above", "gap{fg=1;fg=9}", api.ErrTwice, 9},
		{"a name twice, the first one with a number above", "gap{fg=9;fg=1}", api.ErrRange, 7},
		{"a number above ahead of a name that it has not", "gap{fg=9;none=1}", api.ErrRange, 7},
		{"a name that it has not ahead of a number above", "gap{none=1;fg=9}", api.ErrNone, 4},
		{"an id twice ahead of a number above", "row[gap{id=1},gap{id=1;fg=9}]", api.ErrTwice, 21},
		{"a number above ahead of an id twice", "row[gap{id=1},gap{fg=9;id=1}]", api.ErrRange, 21},
		{"an earlier node's fault", "row[gap{none=1},gap{fg=9}]", api.ErrNone, 8},
		{"a node's fault, ahead of its kid's", "row{fg=9}[gap{none=1}]", api.ErrRange, 7},
		{"a fault ahead of a node too deep", "box{none=1}[" + strings.Repeat("box[", 11) + "gap" + strings.Repeat("]", 12), api.ErrNone, 4},
		{"a node too deep ahead of a fault", strings.Repeat("box[", 12) + "gap{none=1}" + strings.Repeat("]", 12), api.ErrDeep, 48},
		{"a node too many ahead of a fault", "row[" + strings.Repeat("gap,", 99) + "gap{none=1}]", api.ErrMany, 400},
		{"a fault ahead of a node too many", "row[" + strings.Repeat("gap,", 98) + "gap{none=1},gap]", api.ErrNone, 400},
	} {
		t.Run(c.name, func(t *testing.T) { wantFault(t, c.text, c.want, c.place) })
	}
}

func TestParseIds(t *testing.T) {
	wantNodes(t, "row{id=0}[gap{id=0},gap{id=0}]", []api.Node{bare(row, -1, 1, 2), bare(gap, 0), bare(gap, 0)})
	wantNodes(t, "row{id=2}[gap{id=1},gap{id=3}]", []api.Node{
		with(bare(row, -1, 1, 2), func(n *api.Node) { n.Id = 2 }),
		with(bare(gap, 0), func(n *api.Node) { n.Id = 1 }),
		with(bare(gap, 0), func(n *api.Node) { n.Id = 3 }),
	})
	// Only ids are a node's own: other numbers may be had by many.
	wantNodes(t, "row{min=2}[gap{min=2}]", []api.Node{
		with(bare(row, -1, 1), func(n *api.Node) { n.Min = 2 }),
		with(bare(gap, 0), func(n *api.Node) { n.Min = 2 }),
	})
}

// nodeText is a tree with a node of the kind, with what stands in its braces.
func nodeText(kind, braces string) string {
	switch kind {
	case "row", "col", "stack":
		return kind + braces + "[]"
	case "box", "scroll":
		return kind + braces + "[gap]"
	case "text":
		return kind + braces + `"a"`
	}
	return kind + braces
}

// TestParseAttributes tries all names with all kinds: as without, at their bounds, above them, and where the kind has no such name.
func TestParseAttributes(t *testing.T) {
	for kind, word := range documentKinds {
		without, errno, _ := Parse(nodeText(word, ""))
		if errno != api.OK || without[0].Kind != kind {
			t.Fatalf("%s: %+v, %d", word, without, errno)
		}
		for _, a := range documentTable {
			if got := *a.field(&without[0]); got != a.without {
				t.Errorf("%s without %s has %d, want %d", word, a.name, got, a.without)
			}
			place := len(word) + 1
			if !strings.Contains(" "+a.kinds+" ", " "+word+" ") {
				wantFault(t, nodeText(word, "{"+a.name+"=0}"), api.ErrNone, place)
				continue
			}
			for number := range a.to + 2 {
				if number == 1000 && a.to > 2000 {
					break
				}
				tryNumber(t, kind, word, a, number)
			}
			tryNumber(t, kind, word, a, a.to)
			tryNumber(t, kind, word, a, a.to+1)
		}
	}
}

func tryNumber(t *testing.T, kind int, word string, a documentRow, number int) {
	t.Helper()
	s := nodeText(word, "{"+a.name+"="+strconv.Itoa(number)+"}")
	place := len(word) + len(a.name) + 2
	if number > 999999 {
		wantFault(t, s, api.ErrText, place)
		return
	}
	if number > a.to {
		wantFault(t, s, api.ErrRange, place)
		return
	}
	want := bare(kind, -1)
	*a.field(&want) = number
	nodes, errno, at := Parse(s)
	if errno != api.OK || at != 0 {
		t.Errorf("Parse(%q) answers %d at %d", s, errno, at)
		return
	}
	want.Text, want.Kids = nodes[0].Text, nodes[0].Kids
	if !alike(nodes[:1], []api.Node{want}) {
		t.Errorf("Parse(%q) = %+v, want %+v", s, nodes[0], want)
	}
}

func TestParseAnswersNewMemory(t *testing.T) {
	s := "row[col[gap,gap],col[gap,gap],gap]"
	nodes, _, _ := Parse(s)
	again, _, _ := Parse(s)
	for i := range nodes {
		nodes[i].Kids = append(nodes[i].Kids, 77)
		for k := range nodes[i].Kids {
			nodes[i].Kids[k] = -5
		}
		nodes[i].Kind = 99
	}
	for i := range nodes {
		for _, kid := range nodes[i].Kids {
			if kid != -5 {
				t.Errorf("node %d: its kids %v are a piece of another list", i, nodes[i].Kids)
			}
		}
	}
	want := []api.Node{bare(row, -1, 1, 4, 7), bare(col, 0, 2, 3), bare(gap, 1), bare(gap, 1), bare(col, 0, 5, 6), bare(gap, 4), bare(gap, 4), bare(gap, 0)}
	if !alike(again, want) {
		t.Errorf("an answer changes with an earlier one: %+v", again)
	}
	wantNodes(t, s, want)
}

func TestFaultsWrapTheirCauses(t *testing.T) {
	err := error(fault{place: 12, cause: errTwice})
	if !errors.Is(err, errTwice) || errors.Is(err, errRange) {
		t.Error("a fault is not its cause")
	}
	if want := "byte 12: " + errTwice.Error(); err.Error() != want {
		t.Errorf("a fault says %q, want %q", err.Error(), want)
	}
	outer := fault{place: 3, cause: err}
	if errnoOf(outer) != api.ErrTwice || placeOf(outer) != 3 {
		t.Errorf("a fault around another one: %d at %d, want %d at 3", errnoOf(outer), placeOf(outer), api.ErrTwice)
	}
	if placeOf(errTwice) != 0 {
		t.Error("an error without a place has one")
	}
}
