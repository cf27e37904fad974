package tree

import (
	"strconv"
	"strings"

	"pane/api"
)

type printer struct {
	nodes      []api.Node
	attributes []attribute
	out        strings.Builder
}

func (p *printer) printNode(i int) {
	node := &p.nodes[i]
	p.out.WriteString(kindNames[node.Kind])
	p.printAttributes(node)
	switch node.Kind {
	case KindText:
		p.printString(node.Text)
	case KindGap: // has no body
	default:
		p.printKids(node.Kids)
	}
}

func (p *printer) printAttributes(node *api.Node) {
	var told []string
	for _, a := range p.attributes {
		if number := *a.in(node); number != a.without {
			told = append(told, a.name+"="+strconv.Itoa(number))
		}
	}
	if len(told) > 0 {
		p.out.WriteString("{" + strings.Join(told, ";") + "}")
	}
}

func (p *printer) printString(text string) {
	escaped := strings.NewReplacer(`"`, `\"`, `\`, `\\`, "\n", `\n`)
	p.out.WriteString(`"` + escaped.Replace(text) + `"`)
}

func (p *printer) printKids(kids []int) {
	p.out.WriteByte('[')
	for i, kid := range kids {
		if i > 0 {
			p.out.WriteByte(',')
		}
		p.printNode(kid)
	}
	p.out.WriteByte(']')
}
