package lex

import (
	"maps"
	"slices"
	"strings"
)

// reserved are the reserved words.
const reserved = `ASSUME ASSUMPTION AXIOM BOOLEAN CASE CHOOSE CONSTANT CONSTANTS DOMAIN ELSE ENABLED EXCEPT EXTENDS FALSE IF IN INSTANCE LAMBDA LET LOCAL MODULE OTHER RECURSIVE SF_ STRING SUBSET THEN THEOREM TRUE UNCHANGED UNION VARIABLE VARIABLES WF_ WITH`

// single are the signs that have one spelling.
const single = `( ) [ ] { } << >> ]_ >>_ , : ; . _ ! @ ' == |-> -> <- := .. ... | |- -|
=> = < > + - * / % ^ \div @@ :> \ \in \notin \subseteq \supseteq
\A \E \AA \EE [] <> ~> \cdot
\sqsubseteq \sqcup \sqcap \prec \succ \sim \star \bullet ++ -- ** // || & && $ $$ ?? %% ## ^^`

// several are the signs that have several spellings: one sign in a line, its first spelling first.
const several = `/\ \land
\/ \lor
~ \lnot \neg
<=> \equiv
# /=
<= =< \leq
>= \geq
\cup \union
\cap \intersect
\X \times
\o \circ
(+) \oplus
(-) \ominus
(.) \odot`

// longestPlain is the number of bytes of the longest spelling of a sign without letters.
const longestPlain = 3

// How many reserved words and spellings of signs there are: maps with room for them are made faster.
const (
	wordCount     = 35
	spellingCount = 105
)

// language is what a text is read by. Its maps are made when they are first looked into, for most calls need one of them at most.
type language struct {
	words map[string]bool
	signs map[string]string
}

// isWord reports whether s is a reserved word.
func (g *language) isWord(s string) bool {
	if g.words == nil {
		g.words = reservedWords()
	}
	return g.words[s]
}

// canon returns the first spelling of the sign with the spelling s; "" if there is none.
func (g *language) canon(s string) string {
	if g.signs == nil {
		g.signs = firstSpellings()
	}
	return g.signs[s]
}

func reservedWords() map[string]bool {
	words := make(map[string]bool, wordCount)
	for word := range strings.FieldsSeq(reserved) {
		words[word] = true
	}
	return words
}

// firstSpellings returns the first spelling of the sign of each spelling.
func firstSpellings() map[string]string {
	signs := make(map[string]string, spellingCount)
	for sign := range strings.FieldsSeq(single) {
		signs[sign] = sign
	}
	for row := range strings.SplitSeq(several, "\n") {
		first, _, _ := strings.Cut(row, " ")
		for sign := range strings.FieldsSeq(row) {
			signs[sign] = first
		}
	}
	return signs
}

// Canon returns the first spelling of a sign; "" if s is no sign.
func Canon(s string) string { return new(language).canon(s) }

// Words returns the reserved words, sorted.
func Words() []string { return sortedKeys(reservedWords()) }

// Signs returns the signs, all spellings, sorted.
func Signs() []string { return sortedKeys(firstSpellings()) }

func sortedKeys[V any](m map[string]V) []string { return slices.Sorted(maps.Keys(m)) }
