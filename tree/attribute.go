package tree

import "pane/api"

// The kinds of nodes.
const (
	KindRow = iota
	KindCol
	KindStack
	KindBox
	KindScroll
	KindText
	KindGap
)

// kindNames has the words of the kinds, each at its kind's number.
var kindNames = [...]string{"row", "col", "stack", "box", "scroll", "text", "gap"}

func kindOf(word string) (int, bool) {
	for kind, name := range kindNames {
		if name == word {
			return kind, true
		}
	}
	return 0, false
}

// Which kinds have an attribute: a bit for each of them.
const (
	ofBox    = 1 << KindBox
	ofText   = 1 << KindText
	ofRowCol = 1<<KindRow | 1<<KindCol
	ofAll    = ofRowCol | 1<<KindStack | ofBox | 1<<KindScroll | ofText | 1<<KindGap
)

// attribute is a row of the table of attributes.
type attribute struct {
	name    string
	kinds   uint
	most    int // the least is 0 of all of them, and a text has no number below it
	without int
	single  bool                 // no two nodes have the same, unless it is as without
	in      func(*api.Node) *int // where it stands in a node
}

// attributes has its rows in the order in which they are printed.
func attributes() []attribute {
	return []attribute{
		{name: "id", kinds: ofAll, most: 999999, single: true, in: func(n *api.Node) *int { return &n.Id }},
		{name: "min", kinds: ofAll, most: 100000, in: func(n *api.Node) *int { return &n.Min }},
		{name: "max", kinds: ofAll, most: 100000, without: -1, in: func(n *api.Node) *int { return &n.Max }},
		{name: "weight", kinds: ofAll, most: 100000, without: 1, in: func(n *api.Node) *int { return &n.Weight }},
		{name: "gap", kinds: ofRowCol, most: 100, in: func(n *api.Node) *int { return &n.Gap }},
		{name: "pad", kinds: ofBox, most: 20, in: func(n *api.Node) *int { return &n.Pad }},
		{name: "border", kinds: ofBox, most: 1, without: 1, in: func(n *api.Node) *int { return &n.Border }},
		{name: "align", kinds: ofText, most: 2, in: func(n *api.Node) *int { return &n.Align }},
		{name: "wrap", kinds: ofText, most: 1, without: 1, in: func(n *api.Node) *int { return &n.Wrap }},
		{name: "fg", kinds: ofAll, most: 8, in: func(n *api.Node) *int { return &n.Fg }},
		{name: "bg", kinds: ofAll, most: 8, in: func(n *api.Node) *int { return &n.Bg }},
		{name: "bold", kinds: ofAll, most: 1, in: func(n *api.Node) *int { return &n.Bold }},
	}
}

func (a attribute) isOf(kind int) bool { return a.kinds>>kind&1 == 1 }
