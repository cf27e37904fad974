package term

import (
	"unicode/utf8"

	"pane/glyph"
)

const (
	escape = 27
	blank  = ' '
	del    = 127
)

// state reads the next byte, and answers what reads the one behind it. What is half come is nowhere but in the state that waits for the rest.
type state func(t *Term, b byte) state

// outside reads a byte where no sequence and no rune has begun.
func outside(t *Term, b byte) state {
	switch {
	case b == escape:
		t.forget()
		return escaped
	case b < blank || b == del:
		t.forget()
		return outside
	}
	return amid("")(t, b)
}

// amid has the bytes of a rune that have come. None of them but the first could begin another one; so, if they do not go on as they must, each stands for itself, and only the byte that came is read anew.
func amid(half string) state {
	return func(t *Term, b byte) state {
		text := half + string([]byte{b})
		if !utf8.FullRuneInString(text) {
			return amid(text)
		}
		if runes := glyph.Decode(text); len(runes) == 1 {
			t.print(runes[0])
			return outside
		}
		for _, r := range glyph.Decode(half) {
			t.print(r)
		}
		return outside(t, b)
	}
}

func escaped(_ *Term, b byte) state {
	if b == '[' {
		return within(numbers{})
	}
	return outside
}

// within has the numbers of a sequence that have come.
func within(n numbers) state {
	return func(t *Term, b byte) state {
		switch {
		case '0' <= b && b <= '9':
			return within(n.withDigit(int(b - '0')))
		case b == ':':
			return within(n)
		case b == ';':
			return within(n.withAnother())
		case '@' <= b && b <= '~':
			t.obey(b, n)
		}
		return outside
	}
}
