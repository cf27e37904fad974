package glyph

import (
	"slices"
	"strings"
	"testing"

	"pane/api"
)

func one(text string) api.Cluster { return api.Cluster{Text: text, W: 1} }

func two(text string) api.Cluster { return api.Cluster{Text: text, W: 2} }

func TestClusters(t *testing.T) {
	const bad = "\uFFFD"
	end := api.Cluster{Text: "\n", W: 0}
	for _, c := range []struct {
		name, text string
		want       []api.Cluster
		columns    int
	}{
		{"nothing", "", nil, 0},
		{"letters", "ab", []api.Cluster{one("a"), one("b")}, 2},
		{"a mark and a wide one", "e\u0301水", []api.Cluster{one("e\u0301"), two("水")}, 3},
		{"a mark behind a wide one", "水\u0301", []api.Cluster{two("水\u0301")}, 2},
		{"a newline alone", "\n", []api.Cluster{end}, 0},
		{"newlines each by themselves", "a\n\nb", []api.Cluster{one("a"), end, end, one("b")}, 2},
		{"a newline parts a mark from its base", "a\n\u0301", []api.Cluster{one("a"), end, one(" \u0301")}, 2},
		{"a newline behind marks", "a\u0301\n", []api.Cluster{one("a\u0301"), end}, 1},
		{"a mark at the beginning", "\u0301a", []api.Cluster{one(" \u0301"), one("a")}, 2},
		{"marks at the beginning", "\u0301\u0302a", []api.Cluster{one(" \u0301\u0302"), one("a")}, 2},
		{"nothing but a mark", "\u200B", []api.Cluster{one(" \u200B")}, 1},
		{"a mark behind a blank", " \u0301", []api.Cluster{one(" \u0301")}, 1},
		{"as many marks as are kept", "a\u0301\u0302\u0303\u0304b", []api.Cluster{one("a\u0301\u0302\u0303\u0304"), one("b")}, 2},
		{"one mark beyond", "a\u0301\u0302\u0303\u0304\u0305b", []api.Cluster{one("a\u0301\u0302\u0303\u0304"), one("b")}, 2},
		{"one mark beyond, without a base", "\u0301\u0302\u0303\u0304\u0305b", []api.Cluster{one(" \u0301\u0302\u0303\u0304"), one("b")}, 2},
		{"marks are counted anew", "a\u0301\u0302\u0303\u0304\u0305b\u0306", []api.Cluster{one("a\u0301\u0302\u0303\u0304"), one("b\u0306")}, 2},
		{"controls", "\x00\x7F\u0085", []api.Cluster{one(bad), one(bad), one(bad)}, 3},
		{"a mark behind a control", "\t\u0301", []api.Cluster{one(bad + "\u0301")}, 1},
		{"no right sequence", "\xFF\u0301\xE2\x82a", []api.Cluster{one(bad + "\u0301"), one(bad), one(bad), one("a")}, 4},
		{"a mark cut short", "a\xCC", []api.Cluster{one("a"), one(bad)}, 2},
		{"wide ones", "😀가", []api.Cluster{two("😀"), two("가")}, 4},
	} {
		if got := Clusters(c.text); !slices.Equal(got, c.want) {
			t.Errorf("%s: Clusters(%q) = %#v, want %#v", c.name, c.text, got, c.want)
		}
		if got := Columns(c.text); got != c.columns {
			t.Errorf("%s: Columns(%q) = %d, want %d", c.name, c.text, got, c.columns)
		}
	}
}

// clustersByRune adds rune after rune to what stands already, instead of
// taking whole clusters off the front.
func clustersByRune(s string) []api.Cluster {
	var all []api.Cluster
	marks := -1 // of the last cluster; -1 where a mark has no base
	for _, r := range Decode(s) {
		if r == 10 {
			all, marks = append(all, api.Cluster{Text: "\n"}), -1
			continue
		}
		if Width(r) > 0 {
			all, marks = append(all, api.Cluster{Text: Encode([]int{r}), W: Width(r)}), 0
			continue
		}
		if marks < 0 {
			all, marks = append(all, api.Cluster{Text: " ", W: 1}), 0
		}
		if marks < 4 {
			all[len(all)-1].Text += Encode([]int{r})
		}
		marks++
	}
	return all
}

// Every text of up to seven pieces, each of another kind.
func TestClustersOfManyTexts(t *testing.T) {
	pieces := []string{"a", "水", "\u0301", "\n", "\x80"}
	texts := []string{""}
	for length := 1; length <= 7; length++ {
		var longer []string
		for _, s := range texts {
			for _, p := range pieces {
				longer = append(longer, s+p)
			}
		}
		texts = longer
		for _, s := range texts {
			want := clustersByRune(s)
			if got := Clusters(s); !slices.Equal(got, want) {
				t.Fatalf("Clusters(%q) = %#v, want %#v", s, got, want)
			}
			sum := 0
			for _, c := range want {
				sum += c.W
			}
			if got := Columns(s); got != sum {
				t.Fatalf("Columns(%q) = %d, want %d", s, got, sum)
			}
		}
	}
}

func TestClustersOfALongText(t *testing.T) {
	s := strings.Repeat("\u0301", 300000) + strings.Repeat("水\n", 100000)
	if n := len(Clusters(s)); n != 200001 {
		t.Errorf("%d clusters, want 200001", n)
	}
	if n := Columns(s); n != 200001 {
		t.Errorf("%d columns, want 200001", n)
	}
}

func TestClustersAnswerNewMemory(t *testing.T) {
	first, second := Clusters("ab"), Clusters("ab")
	first[0].Text = "z"
	if second[0].Text != "a" {
		t.Error("two answers share their memory")
	}
}
