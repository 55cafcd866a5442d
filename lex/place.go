package lex

import "foregone/api"

// place is a byte of a text, or its end, with the line and the column in which it stands.
type place struct{ at, line, col int }

func firstPlace() place { return place{line: 1, col: 1} }

// behind returns the place of the byte behind the byte b that stands at p.
func (p place) behind(b byte) place {
	p.at++
	switch b {
	case '\n':
		p.line++
		p.col = 1
	case '\t':
		p.col += api.TabWidth - (p.col-1)%api.TabWidth
	default:
		p.col++
	}
	return p
}

// to returns the place of the byte at of a text, which does not stand ahead of p.
func (p place) to(text string, at int) place {
	for p.at < at {
		p = p.behind(text[p.at])
	}
	return p
}

// Locate returns the line and the column of a byte of a text.
func Locate(text string, at int) (int, int, api.Errno) {
	if at < 0 || at > len(text) {
		return 0, 0, api.ErrArg
	}
	p := firstPlace().to(text, at)
	return p.line, p.col, api.OK
}

// Byte returns the byte that stands in a line and a column of a text.
func Byte(text string, line, col int) (int, api.Errno) {
	p := firstPlace()
	for p.at < len(text) && (p.line < line || p.line == line && p.col < col) {
		p = p.behind(text[p.at])
	}
	if p.line != line || p.col != col {
		return 0, api.ErrNone
	}
	return p.at, api.OK
}
