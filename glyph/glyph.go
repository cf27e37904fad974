// Package glyph tells what stands in one place: see doc/01-glyph.md.
package glyph

import (
	"unicode/utf8"

	"pane/api"
)

const (
	newline     = '\n'
	blank       = ' '
	replacement = 0xFFFD
	maxMarks    = 4
)

// Decode tells the runes of a text (G1).
func Decode(s string) []int {
	var runes []int
	// Ranging over a string takes G1's right sequences and no others, and
	// steps over one byte, as U+FFFD, where none begins.
	for _, r := range s {
		runes = append(runes, int(shown(r)))
	}
	return runes
}

// Encode writes runes (G2).
func Encode(l []int) string {
	var text []byte
	for _, n := range l {
		text = utf8.AppendRune(text, runeOf(n))
	}
	return string(text)
}

// Clusters tells the clusters of a text (G4).
func Clusters(s string) []api.Cluster {
	var clusters []api.Cluster
	rest := Decode(s)
	for len(rest) > 0 {
		c, n := firstCluster(rest)
		clusters = append(clusters, c)
		rest = rest[n:]
	}
	return clusters
}

// Columns tells how many columns a text takes (G5).
func Columns(s string) int {
	sum := 0
	for _, c := range Clusters(s) {
		sum += c.W
	}
	return sum
}

// shown keeps controls off the screen: but for the newline they become U+FFFD.
func shown(r rune) rune {
	if r < 32 && r != newline || 127 <= r && r <= 159 {
		return replacement
	}
	return r
}

// runeOf looks at the number ahead of making a rune of it, since one beyond 32
// bits would come round to another rune.
func runeOf(n int) rune {
	if n < 0 || n > utf8.MaxRune || !utf8.ValidRune(rune(n)) {
		return replacement
	}
	return rune(n)
}

// firstCluster tells the cluster with which runes begin, and how many of them
// it takes up. There must be at least one.
func firstCluster(runes []int) (api.Cluster, int) {
	if runes[0] == newline {
		return api.Cluster{Text: "\n"}, 1
	}
	base, n := runes[0], 1
	if isMark(base) {
		base, n = blank, 0
	}
	kept := []int{base}
	for ; n < len(runes) && isMark(runes[n]); n++ {
		if len(kept) <= maxMarks {
			kept = append(kept, runes[n])
		}
	}
	return api.Cluster{Text: Encode(kept), W: Width(base)}, n
}

// isMark leaves out the newline, which has no width either but stands by itself.
func isMark(r int) bool {
	return r != newline && Width(r) == 0
}
