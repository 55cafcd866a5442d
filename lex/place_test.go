package lex_test

import (
	"math"
	"strings"
	"testing"

	"foregone/api"
	"foregone/lex"
)

// P2.3

func TestLocate(t *testing.T) {
	for _, x := range []struct {
		s             string
		at, line, col int
	}{
		{"", 0, 1, 1}, {"a", 0, 1, 1}, {"a", 1, 1, 2}, {"a\tb", 1, 1, 2}, {"a\tb", 2, 1, 9}, {"a\tb", 3, 1, 10}, {"\n", 0, 1, 1}, {"\n", 1, 2, 1}, {"a\nb", 1, 1, 2}, {"a\nb", 2, 2, 1},
		{"\t\t", 1, 1, 9}, {"\t\t", 2, 1, 17}, {"1234567\t", 8, 1, 9}, {"12345678\t", 8, 1, 9}, {"12345678\t", 9, 1, 17}, {"a\r\nb", 2, 1, 3}, {"a\r\nb", 3, 2, 1}, {"\xff\x00(*", 4, 1, 5}, {"?\n\n\t?", 4, 3, 9},
	} {
		if line, col, e := lex.Locate(x.s, x.at); e != api.OK || line != x.line || col != x.col {
			t.Errorf("Locate(%q, %d): %d %d %d", x.s, x.at, line, col, e)
		}
	}
	for _, at := range []int{-1, 4, math.MinInt, math.MaxInt} {
		if line, col, e := lex.Locate("a\tb", at); e != api.ErrArg || line != 0 || col != 0 {
			t.Errorf("Locate(%d): %d %d %d", at, line, col, e)
		}
	}
	long := strings.Repeat("a", api.MaxText) + "\n\t?"
	if line, col, e := lex.Locate(long, len(long)); e != api.OK || line != 2 || col != 10 {
		t.Errorf("Locate: %d %d %d", line, col, e)
	}
}

func TestByte(t *testing.T) {
	for _, x := range []struct {
		s             string
		line, col, at int
	}{
		{"", 1, 1, 0}, {"a", 1, 1, 0}, {"a", 1, 2, 1}, {"a\tb", 1, 2, 1}, {"a\tb", 1, 9, 2}, {"a\tb", 1, 10, 3}, {"a\n", 1, 2, 1}, {"a\n", 2, 1, 2}, {"a\n\n", 2, 1, 2}, {"a\n\n", 3, 1, 3}, {"\t\n\tb", 2, 9, 3}, {"\x80?", 1, 2, 1},
	} {
		if at, e := lex.Byte(x.s, x.line, x.col); e != api.OK || at != x.at {
			t.Errorf("Byte(%q, %d, %d): %d %d", x.s, x.line, x.col, at, e)
		}
	}
	for _, x := range []struct {
		s         string
		line, col int
	}{
		{"", 1, 2}, {"", 2, 1}, {"", 0, 1}, {"", 1, 0}, {"a\tb", 1, 5}, {"a\tb", 1, 3}, {"a\tb", 1, 8}, {"a\tb", 1, 11}, {"a\nb", 1, 3}, {"a\nb", 2, 3}, {"a\nb", 3, 1}, {"a\nb", 0, 1}, {"a\nb", 1, -1}, {"a\nb", -1, 1},
		{"a\nb", math.MaxInt, math.MaxInt}, {"a\nb", math.MinInt, math.MinInt}, {"a\nb", 1, math.MaxInt}, {"a\nb", 2, math.MinInt}, {"a\t\nb", 1, 10},
	} {
		if at, e := lex.Byte(x.s, x.line, x.col); e != api.ErrNone || at != 0 {
			t.Errorf("Byte(%q, %d, %d): %d %d", x.s, x.line, x.col, at, e)
		}
	}
}

// P2.11

func TestPlacesOfBytes(t *testing.T) {
	list := randomTexts(2000)
	list = append(list, "", "\t", "\n\t\n", "a\tb\n\t\tc")
	for _, s := range list {
		found, lines, cols := 0, 1, 1
		for at := range len(s) + 1 {
			line, col, e := lex.Locate(s, at)
			wantLine, wantCol := lineAndColumn(s, at)
			if e != api.OK || line != wantLine || col != wantCol {
				t.Errorf("Locate(%q, %d): %d %d %d", s, at, line, col, e)
			}
			if back, e := lex.Byte(s, line, col); e != api.OK || back != at {
				t.Errorf("Byte(%q, %d, %d): %d %d, want %d", s, line, col, back, e, at)
			}
			lines, cols = max(lines, line), max(cols, col)
		}
		if len(s) > 40 {
			continue
		}
		for line := range lines + 2 { // each byte in one place alone
			for col := range cols + 2 {
				at, e := lex.Byte(s, line, col)
				if e == api.ErrNone {
					continue
				}
				found++
				if l, c, e := lex.Locate(s, at); e != api.OK || l != line || c != col {
					t.Errorf("Locate(%q, %d): %d %d %d, want %d %d", s, at, l, c, e, line, col)
				}
			}
		}
		if found != len(s)+1 {
			t.Errorf("%q: %d places", s, found)
		}
	}
}
