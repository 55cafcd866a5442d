package parse

import (
	"strings"

	"foregone/api"
)

// productSign is the infix operator that makes one product of all its operands.
const productSign = `\X`

// primeLow is where the range of the postfix operator ' begins.
const primeLow = 15

// trait is what is said of an operator besides its range.
type trait int

const (
	left      trait = 1
	definable trait = 2
)

// row are operators of which the tables say the same.
type row struct {
	signs  string
	lo, hi int
	traits trait
}

func (r row) prec() api.Prec { return api.Prec{Lo: r.lo, Hi: r.hi, Left: r.traits&left != 0} }

func prefixRows() []row {
	return []row{
		{"~", 4, 4, 0},
		{"ENABLED UNCHANGED [] <>", 4, 15, 0},
		{"SUBSET UNION", 8, 8, 0},
		{"DOMAIN", 9, 9, 0},
		{"-", 12, 12, 0},
	}
}

func infixRows() []row {
	return []row{
		{"=>", 1, 1, 0},
		{"<=> ~>", 2, 2, 0},
		{`/\ \/`, 3, 3, left},
		{`= # < > <= >= \in \notin \subseteq \supseteq`, 5, 5, 0},
		{`\sqsubseteq \prec \succ \sim`, 5, 5, definable},
		{`\cdot`, 5, 14, left},
		{"@@", 6, 6, left},
		{":>", 7, 7, 0},
		{`\cup \cap`, 8, 8, left},
		{`\`, 8, 8, 0},
		{"..", 9, 9, 0},
		{"...", 9, 9, definable},
		{`$ $$ ?? ## \sqcup \sqcap`, 9, 13, left | definable},
		{"+", 10, 10, left},
		{"(+) ++", 10, 10, left | definable},
		{"%", 10, 11, 0},
		{"%% | ||", 10, 11, left | definable},
		{productSign, 10, 13, 0},
		{"-", 11, 11, left},
		{"(-) --", 11, 11, left | definable},
		{`* \o`, 13, 13, left},
		{`\div`, 13, 13, 0},
		{"/ //", 13, 13, definable},
		{`** (.) & && \star \bullet`, 13, 13, left | definable},
		{"^", 14, 14, 0},
		{"^^", 14, 14, definable},
	}
}

// Prefix returns the precedence of a prefix operator, and whether there is one.
func Prefix(sign string) (api.Prec, bool) {
	r, ok := find(prefixRows(), sign)
	return r.prec(), ok
}

// Infix returns the precedence of an infix operator, and whether there is one.
func Infix(sign string) (api.Prec, bool) {
	r, ok := find(infixRows(), sign)
	return r.prec(), ok
}

// Definable reports whether a module may define an infix operator.
func Definable(sign string) bool {
	r, _ := find(infixRows(), sign)
	return r.traits&definable != 0
}

// find returns the row of an operator.
func find(rows []row, sign string) (row, bool) {
	for _, r := range rows {
		for s := range strings.FieldsSeq(r.signs) {
			if s == sign {
				return r, true
			}
		}
	}
	return row{}, false
}

// How many operators there are: maps with room for them are made faster.
const (
	prefixCount = 9
	infixCount  = 57
)

// operators are the tables of operators, for those who look into them again and again.
type operators struct {
	prefix, infix map[string]row
}

func newOperators() operators {
	return operators{bySign(prefixRows(), prefixCount), bySign(infixRows(), infixCount)}
}

func bySign(rows []row, count int) map[string]row {
	m := make(map[string]row, count)
	for _, r := range rows {
		for s := range strings.FieldsSeq(r.signs) {
			m[s] = r
		}
	}
	return m
}

func (o operators) isPrefix(s string) bool {
	_, ok := o.prefix[s]
	return ok
}

// isBinary reports whether s is an infix operator with two operands.
func (o operators) isBinary(s string) bool {
	_, ok := o.infix[s]
	return ok && s != productSign
}

func (o operators) isDefinable(s string) bool { return o.infix[s].traits&definable != 0 }
