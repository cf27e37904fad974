package api

import "testing"

func TestErrnosHaveTheirNumbers(t *testing.T) {
	named := []Errno{OK, ErrLong, ErrText, ErrMany, ErrDeep, ErrTwice, ErrRange, ErrNone}
	for want, got := range named {
		if int(got) != want {
			t.Errorf("the error named at %d is %d", want, got)
		}
	}
}
