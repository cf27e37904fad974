package tree

import (
	"slices"
	"strconv"
	"strings"

	"pane/api"
)

const (
	maxText   = 4000
	maxNodes  = 100
	maxDepth  = 12
	maxDigits = 6
)

// noNode stands for what is around the first node.
const noNode = -1

// reader goes through a text from the left to the right. Where the text is no tree, it gives up at once, by a panic with the error. Other faults count only in what is a tree to its end: until then it keeps the first one of them.
type reader struct {
	text       string
	at         int // how many bytes are read
	attributes []attribute
	nodes      []api.Node
	first      error
}

func readTree(text string) []api.Node {
	if len(text) > maxText {
		panic(errLong)
	}
	r := reader{text: text, attributes: attributes()}
	r.readNode(noNode, 0)
	r.skipBlanks()
	if r.at < len(text) {
		panic(noTree(r.at))
	}
	if r.first != nil {
		panic(r.first)
	}
	return r.nodes
}

// readNode reads a node within the node up, with as many nodes around it as depth tells.
func (r *reader) readNode(up, depth int) {
	word, place := r.readWord()
	kind, ok := kindOf(word)
	if !ok {
		panic(noTree(place))
	}
	r.keep(r.roomFor(depth), place)
	i := r.addNode(kind, up)
	if r.takes('{') {
		r.readAttributes(&r.nodes[i])
	}
	switch kind {
	case KindText:
		r.nodes[i].Text = r.readString()
	case KindGap: // has no body
	case KindBox, KindScroll:
		r.expect('[')
		r.readNode(i, depth+1)
		r.expect(']')
	default:
		r.readList(i, depth+1)
	}
}

func (r *reader) readList(up, depth int) {
	r.expect('[')
	if r.takes(']') {
		return
	}
	for more := true; more; more = r.takes(',') {
		r.readNode(up, depth)
	}
	r.expect(']')
}

func (r *reader) roomFor(depth int) error {
	if len(r.nodes) >= maxNodes {
		return errMany
	}
	if depth >= maxDepth {
		return errDeep
	}
	return nil
}

// addNode adds a node as it is without attributes, and answers its number.
func (r *reader) addNode(kind, up int) int {
	node := api.Node{Kind: kind, Up: up}
	for _, a := range r.attributes {
		*a.in(&node) = a.without
	}
	i := len(r.nodes)
	r.nodes = append(r.nodes, node)
	if up != noNode {
		r.nodes[up].Kids = append(r.nodes[up].Kids, i)
	}
	return i
}

func (r *reader) readAttributes(node *api.Node) {
	var names []string
	for more := true; more; more = r.takes(';') {
		names = append(names, r.readAttribute(node, names))
	}
	r.expect('}')
}

// readAttribute reads an attribute of the node, which has the names ahead in its braces, and answers its name.
func (r *reader) readAttribute(node *api.Node, ahead []string) string {
	name, place := r.readWord()
	if name == "" {
		panic(noTree(place))
	}
	a, err := r.attributeOf(node.Kind, name, ahead)
	r.keep(err, place)
	r.expect('=')
	number, place := r.readNumber()
	if err == nil {
		r.keep(r.set(node, a, number), place)
	}
	return name
}

func (r *reader) attributeOf(kind int, name string, ahead []string) (attribute, error) {
	for _, a := range r.attributes {
		if a.name != name || !a.isOf(kind) {
			continue
		}
		if slices.Contains(ahead, name) {
			return attribute{}, errTwice
		}
		return a, nil
	}
	return attribute{}, errNone
}

func (r *reader) set(node *api.Node, a attribute, number int) error {
	if number > a.most {
		return errRange
	}
	if a.single && number != a.without && r.someNodeHas(a, number) {
		return errTwice
	}
	*a.in(node) = number
	return nil
}

func (r *reader) someNodeHas(a attribute, number int) bool {
	for i := range r.nodes {
		if *a.in(&r.nodes[i]) == number {
			return true
		}
	}
	return false
}

// keep keeps an error for the text's end, with its place, unless there is none or an earlier one is kept.
func (r *reader) keep(err error, place int) {
	if err != nil && r.first == nil {
		r.first = fault{place: place, cause: err}
	}
}

// readWord answers a word, empty if none stands there, and its place.
func (r *reader) readWord() (string, int) {
	return r.readAll(func(b byte) bool { return 'a' <= b && b <= 'z' })
}

func (r *reader) readNumber() (number, place int) {
	digits, place := r.readAll(func(b byte) bool { return '0' <= b && b <= '9' })
	needless := len(digits) > 1 && digits[0] == '0'
	if digits == "" || len(digits) > maxDigits || needless {
		panic(noTree(place))
	}
	number, _ = strconv.Atoi(digits) // no error: so few digits are a number
	return number, place
}

// readAll answers all the bytes that stand there and are of the kind, and the place of the first one.
func (r *reader) readAll(isOfKind func(byte) bool) (string, int) {
	r.skipBlanks()
	place := r.at
	for r.at < len(r.text) && isOfKind(r.text[r.at]) {
		r.at++
	}
	return r.text[place:r.at], place
}

func (r *reader) readString() string {
	r.expect('"')
	var meant strings.Builder
	for {
		switch b := r.readByte(); b {
		case '"':
			return meant.String()
		case '\\':
			meant.WriteByte(r.readEscaped())
		default:
			meant.WriteByte(b)
		}
	}
}

func (r *reader) readEscaped() byte {
	switch b := r.readByte(); b {
	case '"', '\\':
		return b
	case 'n':
		return '\n'
	}
	panic(noTree(r.at - 1))
}

func (r *reader) readByte() byte {
	if r.at == len(r.text) {
		panic(noTree(r.at))
	}
	r.at++
	return r.text[r.at-1]
}

// takes reads the sign, if it is the next one.
func (r *reader) takes(sign byte) bool {
	r.skipBlanks()
	if r.at == len(r.text) || r.text[r.at] != sign {
		return false
	}
	r.at++
	return true
}

func (r *reader) expect(sign byte) {
	if !r.takes(sign) {
		panic(noTree(r.at))
	}
}

func (r *reader) skipBlanks() {
	for r.at < len(r.text) && (r.text[r.at] == ' ' || r.text[r.at] == '\n') {
		r.at++
	}
}
