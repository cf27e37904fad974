package tree

import (
	"cmp"
	"math/rand"
	"regexp"
	"slices"
	"strconv"
	"strings"
	"testing"

	"pane/api"
)

// A second reading of chapter 4: the text is first cut in signs, a stack then tells which signs may come, and all faults of what is a tree are gathered and the first one taken.

var documentKinds = []string{"row", "col", "stack", "box", "scroll", "text", "gap"}

type documentRow struct {
	name, kinds string
	to, without int
	field       func(*api.Node) *int
}

const everyKind = "row col stack box scroll text gap"

// documentTable has the document's table, in the order of printing.
var documentTable = []documentRow{
	{"id", everyKind, 999999, 0, func(n *api.Node) *int { return &n.Id }},
	{"min", everyKind, 100000, 0, func(n *api.Node) *int { return &n.Min }},
	{"max", everyKind, 100000, -1, func(n *api.Node) *int { return &n.Max }},
	{"weight", everyKind, 100000, 1, func(n *api.Node) *int { return &n.Weight }},
	{"gap", "row col", 100, 0, func(n *api.Node) *int { return &n.Gap }},
	{"pad", "box", 20, 0, func(n *api.Node) *int { return &n.Pad }},
	{"border", "box", 1, 1, func(n *api.Node) *int { return &n.Border }},
	{"align", "text", 2, 0, func(n *api.Node) *int { return &n.Align }},
	{"wrap", "text", 1, 1, func(n *api.Node) *int { return &n.Wrap }},
	{"fg", everyKind, 8, 0, func(n *api.Node) *int { return &n.Fg }},
	{"bg", everyKind, 8, 0, func(n *api.Node) *int { return &n.Bg }},
	{"bold", everyKind, 1, 0, func(n *api.Node) *int { return &n.Bold }},
}

// sign is a word ('w'), a number ('d'), a string ('s'), the text's end ('e'), or a byte by itself.
type sign struct {
	what  byte
	said  string
	place int
	wrong int // where a string goes wrong; -1 if it does not
}

var (
	wordSign   = regexp.MustCompile(`^[a-z]+`)
	numberSign = regexp.MustCompile(`^[0-9]+`)
	rightEnd   = regexp.MustCompile(`^(?s:(?:[^"\\]|\\["\\n])*)`)
)

func signsOf(s string) []sign {
	var signs []sign
	for at := 0; at < len(s); {
		rest := s[at:]
		if rest[0] == ' ' || rest[0] == '\n' {
			at++
			continue
		}
		next := sign{what: rest[0], said: rest[:1], place: at, wrong: -1}
		if word := wordSign.FindString(rest); word != "" {
			next.what, next.said = 'w', word
		} else if number := numberSign.FindString(rest); number != "" {
			next.what, next.said = 'd', number
		} else if rest[0] == '"' {
			next = stringSign(rest, at)
		}
		signs = append(signs, next)
		at += len(next.said)
	}
	return append(signs, sign{what: 'e', place: len(s), wrong: -1})
}

func stringSign(rest string, at int) sign {
	next := sign{what: 's', said: rest, place: at, wrong: at + len(rest)}
	inside := latin(rest[1:])
	right := len([]rune(rightEnd.FindString(inside)))
	if end := 1 + right; end < len(rest) && rest[end] == '"' {
		next.said, next.wrong = rest[:end+1], -1
	} else if end+1 < len(rest) {
		next.wrong = at + end + 1
	}
	return next
}

// latin has a rune for each byte, so that an expression sees bytes.
func latin(s string) string {
	runes := make([]rune, len(s))
	for i := range len(s) {
		runes[i] = rune(s[i])
	}
	return string(runes)
}

type readAttr struct {
	name, number sign
}

type readNode struct {
	kind, up, depth int
	word            sign
	attrs           []readAttr
	said            string
}

// symbol is what may come: N a node, B braces or none, A an attribute, R what is behind one, L what is behind a list's beginning, M what is behind one of its nodes; else a sign.
type symbol struct {
	what byte
	node int
}

// grow answers the nodes of a text, or the place at which it is no tree.
func grow(s string) ([]readNode, int) {
	signs := signsOf(s)
	var nodes []readNode
	ahead := []symbol{{'N', -1}, {'e', 0}}
	for len(ahead) > 0 {
		now, next := ahead[0], signs[0]
		ahead = ahead[1:]
		var coming []symbol
		taken := false
		ok := true
		i := now.node
		switch now.what {
		case 'N':
			kind := slices.Index(documentKinds, next.said)
			if ok = next.what == 'w' && kind >= 0; !ok {
				break
			}
			node := readNode{kind: kind, up: i, word: next}
			if i >= 0 {
				node.depth = nodes[i].depth + 1
			}
			nodes, taken = append(nodes, node), true
			coming = bodyOf(next.said, len(nodes)-1)
		case 'B':
			if taken = next.what == '{'; taken {
				coming = []symbol{{'A', i}, {'R', i}}
			}
		case 'A':
			if ok = next.what == 'w'; ok {
				nodes[i].attrs, taken = append(nodes[i].attrs, readAttr{name: next}), true
				coming = []symbol{{'=', i}, {'d', i}}
			}
		case 'R':
			taken, ok = true, next.what == ';' || next.what == '}'
			if next.what == ';' {
				coming = []symbol{{'A', i}, {'R', i}}
			}
		case 'L':
			if taken = next.what == ']'; !taken {
				coming = []symbol{{'N', i}, {'M', i}}
			}
		case 'M':
			taken, ok = true, next.what == ',' || next.what == ']'
			if next.what == ',' {
				coming = []symbol{{'N', i}, {'M', i}}
			}
		case 'd':
			taken, ok = true, next.what == 'd' && len(next.said) <= 6 && (next.said == "0" || next.said[0] != '0')
			nodes[i].attrs[len(nodes[i].attrs)-1].number = next
		case 's':
			taken, ok = true, next.what == 's'
			if ok && next.wrong >= 0 {
				return nil, next.wrong
			}
			nodes[i].said = next.said
		default:
			taken, ok = true, next.what == now.what
		}
		if !ok {
			return nil, next.place
		}
		if taken {
			signs = signs[1:]
		}
		ahead = append(coming, ahead...)
	}
	return nodes, 0
}

func bodyOf(kind string, i int) []symbol {
	switch kind {
	case "box", "scroll":
		return []symbol{{'B', i}, {'[', i}, {'N', i}, {']', i}}
	case "text":
		return []symbol{{'B', i}, {'s', i}}
	case "gap":
		return []symbol{{'B', i}}
	}
	return []symbol{{'B', i}, {'[', i}, {'L', i}}
}

type documentFault struct {
	place, rank int
	errno       api.Errno
}

func rowOf(name string) (documentRow, bool) {
	for _, a := range documentTable {
		if a.name == name {
			return a, true
		}
	}
	return documentRow{}, false
}

func faultsOf(nodes []readNode) []documentFault {
	var faults []documentFault
	add := func(is bool, place, rank int, errno api.Errno) {
		if is {
			faults = append(faults, documentFault{place, rank, errno})
		}
	}
	for i, node := range nodes {
		add(i >= 100, node.word.place, 1, api.ErrMany)
		add(node.depth >= 12, node.word.place, 2, api.ErrDeep)
		for k, attr := range node.attrs {
			a, known := rowOf(attr.name.said)
			has := known && slices.Contains(strings.Fields(a.kinds), documentKinds[node.kind])
			add(!has, attr.name.place, 3, api.ErrNone)
			sameName := func(other readAttr) bool { return other.name.said == attr.name.said }
			add(slices.ContainsFunc(node.attrs[:k], sameName), attr.name.place, 4, api.ErrTwice)
			number, _ := strconv.Atoi(attr.number.said)
			add(has && number > a.to, attr.number.place, 5, api.ErrRange)
			hasId := func(other readNode) bool {
				return slices.ContainsFunc(other.attrs, func(o readAttr) bool { return o.name.said == "id" && o.number.said == attr.number.said })
			}
			add(attr.name.said == "id" && number != 0 && slices.ContainsFunc(nodes[:i], hasId), attr.number.place, 6, api.ErrTwice)
		}
	}
	return faults
}

// parsed is what the document asks of Parse.
func parsed(s string) ([]api.Node, api.Errno, int) {
	if len(s) > 4000 {
		return nil, api.ErrLong, 0
	}
	grown, place := grow(s)
	if grown == nil {
		return nil, api.ErrText, place
	}
	if faults := faultsOf(grown); len(faults) > 0 {
		first := slices.MinFunc(faults, func(a, b documentFault) int {
			return cmp.Or(cmp.Compare(a.place, b.place), cmp.Compare(a.rank, b.rank))
		})
		return nil, first.errno, first.place
	}
	var nodes []api.Node
	for i, g := range grown {
		node := api.Node{Kind: g.kind, Up: g.up, Max: -1, Weight: 1, Border: 1, Wrap: 1, Text: meant(g.said)}
		for _, attr := range g.attrs {
			a, _ := rowOf(attr.name.said)
			*a.field(&node), _ = strconv.Atoi(attr.number.said)
		}
		nodes = append(nodes, node)
		if g.up >= 0 {
			nodes[g.up].Kids = append(nodes[g.up].Kids, i)
		}
	}
	return nodes, api.OK, 0
}

var escape = regexp.MustCompile(`\\.`)

func meant(said string) string {
	if said == "" {
		return ""
	}
	return escape.ReplaceAllStringFunc(said[1:len(said)-1], func(two string) string {
		if two == `\n` {
			return "\n"
		}
		return two[1:]
	})
}

// formOf is what the document asks of Print, of a node and what is within.
func formOf(nodes []api.Node, i int) string {
	node := nodes[i]
	word := documentKinds[node.Kind]
	braces := ""
	for _, a := range documentTable {
		if number := *a.field(&node); number != a.without {
			braces += ";" + a.name + "=" + strconv.Itoa(number)
		}
	}
	if braces != "" {
		braces = "{" + braces[1:] + "}"
	}
	switch word {
	case "gap":
		return word + braces
	case "text":
		said := ""
		for _, b := range []byte(node.Text) {
			switch b {
			case '\n':
				said += `\n`
			case '"', '\\':
				said += `\` + string(rune(b))
			default:
				said += string([]byte{b})
			}
		}
		return word + braces + `"` + said + `"`
	}
	var kids []string
	for _, kid := range node.Kids {
		kids = append(kids, formOf(nodes, kid))
	}
	return word + braces + "[" + strings.Join(kids, ",") + "]"
}

func holdAgainstDocument(t *testing.T, s string) api.Errno {
	t.Helper()
	nodes, errno, place := parsed(s)
	if gotNodes, gotErrno, gotPlace := Parse(s); gotErrno != errno || gotPlace != place || !alike(gotNodes, nodes) {
		t.Fatalf("Parse(%q) = %+v, %d at %d, want %+v, %d at %d", s, gotNodes, gotErrno, gotPlace, nodes, errno, place)
	}
	form := ""
	if errno == api.OK {
		form = formOf(nodes, 0)
	}
	if got, gotErrno, gotPlace := Print(s); got != form || gotErrno != errno || gotPlace != place {
		t.Fatalf("Print(%q) = %q, %d at %d, want %q, %d at %d", s, got, gotErrno, gotPlace, form, errno, place)
	}
	return errno
}

// TestDocumentShortTexts tries all texts of a few pieces.
func TestDocumentShortTexts(t *testing.T) {
	pieces := []string{"row", "box", "text", "gap", "{", "}", "[", "]", ",", ";", "=", "0", "12", "\"", "\\", " ", "n", "!"}
	var try func(s string, left int)
	try = func(s string, left int) {
		holdAgainstDocument(t, s)
		if left > 0 {
			for _, piece := range pieces {
				try(s+piece, left-1)
			}
		}
	}
	try("", 4)
	for _, begun := range []string{"gap{id=1", "row[gap,", "box{pad=2}[", `text"a`, "row{gap=", "col[row[gap{id=1}],"} {
		try(begun, 3)
	}
}

// planter writes trees at random, with faults now and then.
type planter struct {
	*rand.Rand
	most, deep int // how many kids a node has at most, and how many nodes may be around one
	attributes int // out of 10 nodes, about how many have some
}

func (p planter) blank() string {
	return []string{"", "", "", "", " ", "\n", "  \n"}[p.Intn(7)]
}

func (p planter) tree(depth int) string {
	word := documentKinds[p.Intn(7)]
	if depth >= p.deep {
		word = documentKinds[5+p.Intn(2)]
	} else if depth == 0 || p.most == 1 {
		word = documentKinds[p.Intn(5)]
	}
	out := p.blank() + word + p.blank()
	if p.Intn(10) < p.attributes {
		out += "{" + p.attribute(word)
		for p.Intn(2) == 0 {
			out += ";" + p.attribute(word)
		}
		out += "}" + p.blank()
	}
	switch word {
	case "gap":
		return out
	case "text":
		return out + p.string() + p.blank()
	case "box", "scroll":
		return out + "[" + p.tree(depth+1) + "]" + p.blank()
	}
	var kids []string
	for range max(p.Intn(p.most+1), 2-p.most) {
		kids = append(kids, p.tree(depth+1))
	}
	return out + "[" + p.blank() + strings.Join(kids, ",") + "]" + p.blank()
}

func (p planter) attribute(kind string) string {
	a := documentTable[p.Intn(len(documentTable))]
	for p.Intn(30) > 0 && !strings.Contains(" "+a.kinds+" ", " "+kind+" ") {
		a = documentTable[p.Intn(len(documentTable))]
	}
	name := a.name
	if p.Intn(60) == 0 {
		name = []string{"none", "mins", "a", "text"}[p.Intn(4)]
	}
	number := p.Intn(min(a.to, 9999) + 1)
	if p.Intn(20) == 0 {
		number = a.to + p.Intn(2)
	}
	return p.blank() + name + p.blank() + "=" + p.blank() + strconv.Itoa(number) + p.blank()
}

func (p planter) string() string {
	out := `"`
	for p.Intn(5) > 0 {
		out += []string{"a", " ", "\n", `\n`, `\"`, `\\`, "]", "水", "\xff", "n"}[p.Intn(10)]
	}
	return out + `"`
}

// TestDocumentTrees tries trees at random, and what comes of them by a change of one byte.
func TestDocumentTrees(t *testing.T) {
	r := rand.New(rand.NewSource(4))
	seen := map[api.Errno]int{}
	for _, p := range []planter{{r, 3, 3, 5}, {r, 2, 6, 3}, {r, 1, 13, 1}, {r, 10, 4, 0}, {r, 4, 4, 1}} {
		for range 600 {
			s := p.tree(0)
			at := p.Intn(len(s))
			other := string(`{}[],;="\ n0129az!`[p.Intn(18)])
			for _, s := range []string{s, s[:at], s[:at] + s[at+1:], s[:at] + other + s[at:], s[:at] + other + s[at+1:]} {
				seen[holdAgainstDocument(t, s)]++
			}
		}
	}
	for errno := api.ErrText; errno <= api.ErrNone; errno++ {
		if seen[errno] < 50 {
			t.Errorf("only %d of the texts answer %d: %v", seen[errno], errno, seen)
		}
	}
}
