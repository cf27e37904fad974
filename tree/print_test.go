package tree

import (
	"strings"
	"testing"

	"pane/api"
)

func TestPrint(t *testing.T) {
	for _, c := range []struct{ name, text, want string }{
		{"a gap", "gap", "gap"},
		{"an empty row", "row[]", "row[]"},
		{"an empty text", `text""`, `text""`},
		{"the document's example", `row{gap=1}[text{weight=0}"Name:",box{id=7}[text"水"]]`, `row{gap=1}[text{weight=0}"Name:",box{id=7}[text"水"]]`},
		{"every kind", "row[col[],stack[],box[gap],scroll[gap],text\"\",gap]", "row[col[],stack[],box[gap],scroll[gap],text\"\",gap]"},
		{"nodes within nodes", "row[col[gap,row[]],gap,box[stack[gap]],gap]", "row[col[gap,row[]],gap,box[stack[gap]],gap]"},

		{"blanks around", " gap ", "gap"},
		{"blanks between signs", " row { id = 1 ; gap = 2 } [ gap , text \"a\" , box [ gap ] ] ", "row{id=1;gap=2}[gap,text\"a\",box[gap]]"},
		{"newlines between signs", "\nrow\n{\nid\n=\n1\n}\n[\ngap\n,\ngap\n]\n", "row{id=1}[gap,gap]"},
		{"blanks in strings", `text "  a  b  "`, `text"  a  b  "`},

		{"the order, of a row", "row{bold=1;bg=2;fg=3;gap=4;weight=5;max=6;min=7;id=8}[]", "row{id=8;min=7;max=6;weight=5;gap=4;fg=3;bg=2;bold=1}[]"},
		{"the order, of a box", "box{bold=1;bg=2;fg=3;border=0;pad=4;weight=5;max=6;min=7;id=8}[gap]", "box{id=8;min=7;max=6;weight=5;pad=4;border=0;fg=3;bg=2;bold=1}[gap]"},
		{"the order, of a text", `text{bold=1;bg=2;fg=3;wrap=0;align=1;weight=5;max=6;min=7;id=8}""`, `text{id=8;min=7;max=6;weight=5;align=1;wrap=0;fg=3;bg=2;bold=1}""`},
		{"the order that it has", "gap{id=1;min=2;max=3;weight=4;fg=5;bg=6;bold=1}", "gap{id=1;min=2;max=3;weight=4;fg=5;bg=6;bold=1}"},

		{"as without", "gap{id=0;min=0;weight=1;fg=0;bg=0;bold=0}", "gap"},
		{"as without, of a row", "row{gap=0}[]", "row[]"},
		{"as without, of a box", "box{pad=0;border=1}[gap]", "box[gap]"},
		{"as without, of a text", `text{align=0;wrap=1}""`, `text""`},
		{"some as without", "gap{bold=1;fg=2;min=0}", "gap{fg=2;bold=1}"},
		{"0 where without it another holds", "gap{max=0;weight=0}", "gap{max=0;weight=0}"},
		{"0 where without it 1 holds", `row[box{border=0}[gap],text{wrap=0}""]`, `row[box{border=0}[gap],text{wrap=0}""]`},
		{"the greatest numbers", "row{id=999999;min=100000;max=100000;weight=100000;gap=100;fg=8;bg=8;bold=1}[]", "row{id=999999;min=100000;max=100000;weight=100000;gap=100;fg=8;bg=8;bold=1}[]"},

		{"escapes", `text"a\"b\\c\nd"`, `text"a\"b\\c\nd"`},
		{"a newline as it is", "text\"a\nb\"", `text"a\nb"`},
		{"an escaped escape ahead of an n", `text"\\n"`, `text"\\n"`},
		{"other bytes", "text\"\x00\t\r\x1b\x7f\x80\xff\xe6\xb0'`\"", "text\"\x00\t\r\x1b\x7f\x80\xff\xe6\xb0'`\""},
	} {
		t.Run(c.name, func(t *testing.T) {
			if got, errno, place := Print(c.text); got != c.want || errno != api.OK || place != 0 {
				t.Errorf("Print(%q) = %q, %d at %d, want %q", c.text, got, errno, place, c.want)
			}
			// The form is one: a tree in it is printed as it is.
			if got, _, _ := Print(c.want); got != c.want {
				t.Errorf("Print(%q) = %q", c.want, got)
			}
		})
	}
}

func TestPrintAnyByte(t *testing.T) {
	for b := range 256 {
		one := string([]byte{byte(b)})
		if b == '"' || b == '\\' || b == '\n' {
			continue
		}
		if got, errno, _ := Print(`text"` + one + `"`); got != `text"`+one+`"` || errno != api.OK {
			t.Errorf("Print of a text with the byte %d = %q, %d", b, got, errno)
		}
	}
}

// A printed tree can be longer than a text may be.
func TestPrintLong(t *testing.T) {
	newlines := 4000 - len(`text""`)
	got, errno, place := Print(`text"` + strings.Repeat("\n", newlines) + `"`)
	if want := `text"` + strings.Repeat(`\n`, newlines) + `"`; got != want || errno != api.OK || place != 0 {
		t.Errorf("Print of %d newlines: %d bytes, %d at %d, want %d bytes", newlines, len(got), errno, place, len(want))
	}
}
