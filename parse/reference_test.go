package parse_test

import (
	"slices"
	"strings"

	"foregone/api"
	"foregone/lex"
)

// The tests compare with a second reader. It goes down where an operator takes precedence, cuts the items of lists out of the text, and looks for the end of each bracket by counting.

// rangesOfTheChapter are the rows of the chapter's tables.
const prefixesOfTheChapter = "`~` | 4 to 4\nENABLED, UNCHANGED, `[]`, `<>` | 4 to 15\nSUBSET, UNION | 8 to 8\nDOMAIN | 9 to 9\n`-` | 12 to 12"

const infixesOfTheChapter = "`=>` | 1 to 1 |\n`<=>` `~>` | 2 to 2 |\n`/\\` `\\/` | 3 to 3 | left\n" +
	"`=` `#` `<` `>` `<=` `>=` `\\in` `\\notin` `\\subseteq` `\\supseteq` | 5 to 5 |\n`\\sqsubseteq` `\\prec` `\\succ` `\\sim` | 5 to 5 | definable\n" +
	"`\\cdot` | 5 to 14 | left\n`@@` | 6 to 6 | left\n`:>` | 7 to 7 |\n`\\cup` `\\cap` | 8 to 8 | left\n`\\` | 8 to 8 |\n`..` | 9 to 9 |\n`...` | 9 to 9 | definable\n" +
	"`$` `$$` `??` `##` `\\sqcup` `\\sqcap` | 9 to 13 | left, definable\n`+` | 10 to 10 | left\n`(+)` `++` | 10 to 10 | left, definable\n`%` | 10 to 11 |\n" +
	"`%%` `:bar:` `:bar::bar:` | 10 to 11 | left, definable\n`\\X` | 10 to 13 |\n`-` | 11 to 11 | left\n`(-)` `--` | 11 to 11 | left, definable\n" +
	"`*` `\\o` | 13 to 13 | left\n`\\div` | 13 to 13 |\n`/` `//` | 13 to 13 | definable\n`**` `(.)` `&` `&&` `\\star` `\\bullet` | 13 to 13 | left, definable\n`^` | 14 to 14 |\n`^^` | 14 to 14 | definable"

// rangeOf is what a table says of an operator.
type rangeOf struct {
	lo, hi          int
	left, definable bool
}

var (
	prefixTable = readTable(prefixesOfTheChapter)
	infixTable  = readTable(infixesOfTheChapter)
	prefixSigns = sortedKeys(prefixTable)
	infixSigns  = sortedKeys(infixTable)
	unitWords   = strings.Fields("CONSTANT CONSTANTS RECURSIVE VARIABLE VARIABLES ASSUME ASSUMPTION AXIOM THEOREM LOCAL INSTANCE")
	kindOfWord  = kindsOfWords()
)

func readTable(rows string) map[string]rangeOf {
	table := map[string]rangeOf{}
	for _, line := range strings.Split(rows, "\n") {
		cells := strings.Split(line+"|", "|")
		bounds := strings.Fields(cells[1])
		r := rangeOf{lo: decimal(bounds[0]), hi: decimal(bounds[2])}
		r.left = strings.Contains(cells[2], "left")
		r.definable = strings.Contains(cells[2], "definable")
		for _, s := range strings.FieldsFunc(cells[0], func(c rune) bool { return strings.ContainsRune("`, ", c) }) {
			table[strings.ReplaceAll(s, ":bar:", "|")] = r
		}
	}
	return table
}

// kindsOfWords returns the kinds of all reserved words and signs.
func kindsOfWords() map[string]int {
	kinds := map[string]int{}
	for _, s := range lex.Words() {
		kinds[s] = api.TkKey
	}
	for _, s := range lex.Signs() {
		if lex.Canon(s) == s {
			kinds[s] = api.TkSign
		}
	}
	return kinds
}

func decimal(s string) int {
	n := 0
	for _, c := range s {
		n = 10*n + int(c-'0')
	}
	return n
}

// pending is an operator that waits for its right operand.
type pending struct {
	rangeOf
	sign   string
	prefix bool
}

// refused is an error at a token. The second reader is left by a panic with it.
type refused struct {
	at int
	e  api.Errno
}

// second is the second reader.
type second struct{ l []api.Token }

// at returns what a token ahead of end is: the sign or the word, or the name of its kind.
func (r second) at(i, end int) string {
	if i >= end {
		return "end"
	}
	switch t := r.l[i]; t.Kind {
	case api.TkSign, api.TkKey:
		if kindOfWord[t.S] != t.Kind {
			return "neither"
		}
		return t.S
	default:
		return []string{"", "name", "number", "string", "", "", "rule", "close"}[t.Kind]
	}
}

func (r second) need(i, end int, what string) int {
	if r.at(i, end) != what {
		panic(refused{i, api.ErrParse})
	}
	return i + 1
}

// mk returns a node of the tokens from i to j-1.
func (r second) mk(kind, i, j int, s string, l ...api.Node) api.Node {
	return api.Node{Kind: kind, S: s, L: l, At: r.l[i].At, End: r.l[j-1].End}
}

// binds tells which one of two operators beside each other binds more tightly: "p", "q", "none", or "both", of a product.
func binds(p, q pending) string {
	switch {
	case p.lo > q.hi, !p.prefix && p.sign == q.sign && p.left:
		return "p"
	case p.hi < q.lo:
		return "q"
	case !p.prefix && p.sign == `\X` && q.sign == `\X`:
		return "both"
	}
	return "none"
}

// expr reads the right operand of the last one of some pending operators, or a whole expression.
func (r second) expr(i, end int, pend ...pending) (api.Node, int) {
	x, j := r.operand(i, end, pend...)
	for {
		sign := r.at(j, end)
		row, ok := infixTable[sign]
		if !ok {
			return x, j
		}
		q := pending{rangeOf: row, sign: sign}
		if len(pend) > 0 {
			switch binds(pend[len(pend)-1], q) {
			case "p", "both":
				return x, j
			case "none":
				panic(refused{j, api.ErrPrec})
			}
		}
		var y api.Node
		y, j = r.expr(j+1, end, append(slices.Clone(pend), q)...)
		l := []api.Node{x, y}
		for sign == `\X` && r.at(j, end) == `\X` {
			y, j = r.expr(j+1, end, append(slices.Clone(pend), q)...)
			l = append(l, y)
		}
		if x = r.mk(api.NdInfix, i, j, sign, l...); sign == `\X` {
			x.Kind, x.S = api.NdProduct, ""
		}
	}
}

func (r second) operand(i, end int, pend ...pending) (api.Node, int) {
	sign := r.at(i, end)
	if row, ok := prefixTable[sign]; ok {
		x, j := r.expr(i+1, end, append(slices.Clone(pend), pending{rangeOf: row, sign: sign, prefix: true})...)
		return r.mk(api.NdPrefix, i, j, sign, x), j
	}
	x, j := r.primary(i, end)
	for {
		switch r.at(j, end) {
		case "'":
			if len(pend) > 0 && binds(pend[len(pend)-1], pending{rangeOf: rangeOf{lo: 15, hi: 15}, sign: "'"}) != "q" {
				panic(refused{j, api.ErrPrec})
			}
			j++
			x = r.mk(api.NdPrime, i, j, "", x)
		case ".":
			j = r.need(j+1, end, "name")
			x = r.mk(api.NdDot, i, j, r.l[j-1].S, x)
		case "[":
			var l []api.Node
			l, j = r.exprs(j+1, end, "]")
			x = r.mk(api.NdIndex, i, j, "", append([]api.Node{x}, l...)...)
		default:
			return x, j
		}
	}
}

// series reads one or more parts with commas between them.
func (r second) series(i, end int, part func(i, end int) (api.Node, int)) ([]api.Node, int) {
	n, j := part(i, end)
	l := []api.Node{n}
	for r.at(j, end) == "," {
		n, j = part(j+1, end)
		l = append(l, n)
	}
	return l, j
}

// exprs reads one or more expressions and a closing sign.
func (r second) exprs(i, end int, closing string) ([]api.Node, int) {
	l, j := r.series(i, end, r.whole)
	return l, r.need(j, end, closing)
}

func (r second) whole(i, end int) (api.Node, int) { return r.expr(i, end) }

func (r second) named(kind int) func(i, end int) (api.Node, int) {
	return func(i, end int) (api.Node, int) {
		j := r.need(i, end, "name")
		return r.mk(kind, i, j, r.l[i].S), j
	}
}

func (r second) primary(i, end int) (api.Node, int) {
	switch what := r.at(i, end); what {
	case "name":
		return r.path(i, end, r.called)
	case "number":
		n := r.mk(api.NdNumber, i, i+1, "")
		n.I = r.l[i].I
		return n, i + 1
	case "string":
		return r.mk(api.NdString, i, i+1, r.l[i].S), i + 1
	case "TRUE", "FALSE", "BOOLEAN", "STRING", "@":
		return r.mk(api.NdWord, i, i+1, what), i + 1
	case "(":
		x, j := r.expr(i+1, end)
		return x, r.need(j, end, ")")
	case `/\`, `\/`:
		return r.list(i, end)
	case `\A`, `\E`:
		l, j := r.series(i+1, end, r.bind)
		body, j := r.expr(r.need(j, end, ":"), end)
		return r.mk(api.NdQuant, i, j, what, append(l, body)...), j
	case "CHOOSE":
		bind, j := r.bindOne(i+1, end)
		body, j := r.expr(r.need(j, end, ":"), end)
		return r.mk(api.NdChoose, i, j, "", bind, body), j
	case "IF":
		a, j := r.expr(i+1, end)
		b, j := r.expr(r.need(j, end, "THEN"), end)
		c, j := r.expr(r.need(j, end, "ELSE"), end)
		return r.mk(api.NdIf, i, j, "", a, b, c), j
	case "CASE":
		return r.cases(i, end)
	case "LET":
		l, j := r.definition(i+1, end, false)
		all := []api.Node{l}
		for r.at(j, end) == "name" {
			l, j = r.definition(j, end, false)
			all = append(all, l)
		}
		body, j := r.expr(r.need(j, end, "IN"), end)
		return r.mk(api.NdLet, i, j, "", append(all, body)...), j
	case "{":
		return r.braces(i, end)
	case "<<":
		return r.tuple(i, end, true)
	case "[":
		return r.square(i, end)
	case "WF_", "SF_":
		sub, j := r.subscript(i+1, end)
		action, j := r.expr(r.need(j, end, "("), end)
		j = r.need(j, end, ")")
		return r.mk(api.NdFair, i, j, what, sub, action), j
	}
	panic(refused{i, api.ErrParse})
}

// path reads names with ! between them.
func (r second) path(i, end int, part func(i, end int) (api.Node, int)) (api.Node, int) {
	n, j := part(i, end)
	l := []api.Node{n}
	for r.at(j, end) == "!" {
		n, j = part(j+1, end)
		l = append(l, n)
	}
	if len(l) == 1 {
		return n, j
	}
	return r.mk(api.NdQual, i, j, "", l...), j
}

func (r second) called(i, end int) (api.Node, int) {
	j := r.need(i, end, "name")
	if r.at(j, end) != "(" {
		return r.mk(api.NdName, i, j, r.l[i].S), j
	}
	l, j := r.series(j+1, end, func(i, end int) (api.Node, int) { return r.argument(i, end, ", )") })
	j = r.need(j, end, ")")
	return r.mk(api.NdCall, i, j, r.l[i].S, l...), j
}

// argument reads an argument; behind an operator alone one of some words stands.
func (r second) argument(i, end int, behind string) (api.Node, int) {
	what := r.at(i, end)
	if what == "LAMBDA" {
		l, j := r.series(i+1, end, r.named(api.NdDecl))
		body, j := r.expr(r.need(j, end, ":"), end)
		return r.mk(api.NdLambda, i, j, "", append(l, body)...), j
	}
	_, infix := infixTable[what]
	if infix && what != `\X` && slices.Contains(strings.Fields(behind), r.at(i+1, end)) {
		return r.mk(api.NdSign, i, i+1, what), i + 1
	}
	return r.expr(i, end)
}

// list reads a bulleted list: each item is a text that ends at the first token that stands too far left.
func (r second) list(i, end int) (api.Node, int) {
	first := r.l[i]
	var items []api.Node
	j := i
	for j < end && r.l[j].Kind == first.Kind && r.l[j].S == first.S && r.l[j].Col == first.Col {
		cut := j + 1
		for cut < end && r.l[cut].Col > first.Col {
			cut++
		}
		var item api.Node
		item, j = r.expr(j+1, cut)
		items = append(items, item)
	}
	return r.mk(api.NdJunct, i, j, first.S, items...), j
}

func (r second) bind(i, end int) (api.Node, int) {
	if r.at(i, end) == "<<" {
		return r.bindTuple(i, end)
	}
	l, j := r.series(i, end, r.named(api.NdName))
	set, j := r.expr(r.need(j, end, `\in`), end)
	return r.mk(api.NdBind, i, j, "", append(l, set)...), j
}

func (r second) bindTuple(i, end int) (api.Node, int) {
	l, j := r.series(i+1, end, r.named(api.NdName))
	set, j := r.expr(r.need(r.need(j, end, ">>"), end, `\in`), end)
	n := r.mk(api.NdBind, i, j, "", append(l, set)...)
	n.N = 1
	return n, j
}

func (r second) bindOne(i, end int) (api.Node, int) {
	if r.at(i, end) == "<<" {
		return r.bindTuple(i, end)
	}
	name, j := r.named(api.NdName)(i, end)
	set, j := r.expr(r.need(j, end, `\in`), end)
	return r.mk(api.NdBind, i, j, "", name, set), j
}

func (r second) cases(i, end int) (api.Node, int) {
	var l []api.Node
	j := i + 1
	for {
		from, number := j, 0
		var parts []api.Node
		if len(l) > 0 && r.at(j, end) == "OTHER" {
			number = 1
			j++
		} else {
			var guard api.Node
			guard, j = r.expr(j, end)
			parts = append(parts, guard)
		}
		var e api.Node
		e, j = r.expr(r.need(j, end, "->"), end)
		arm := r.mk(api.NdArm, from, j, "", append(parts, e)...)
		arm.N = number
		l = append(l, arm)
		if number == 1 || r.at(j, end) != "[]" {
			return r.mk(api.NdCase, i, j, "", l...), j
		}
		j++
	}
}

// inParentheses reports whether the tokens from i to j-1 are an expression in parentheses.
func (r second) inParentheses(i, j, end int) bool {
	if r.at(i, end) != "(" {
		return false
	}
	_, k := r.primary(i, end)
	return k == j
}

func (r second) braces(i, end int) (api.Node, int) {
	if r.at(i+1, end) == "}" {
		return r.mk(api.NdSet, i, i+2, ""), i + 2
	}
	x, j := r.expr(i+1, end)
	if r.at(j, end) == "," {
		l, j := r.exprs(j+1, end, "}")
		return r.mk(api.NdSet, i, j, "", append([]api.Node{x}, l...)...), j
	}
	if r.at(j, end) != ":" {
		j = r.need(j, end, "}")
		return r.mk(api.NdSet, i, j, "", x), j
	}
	if bind, ok := bindOf(x); ok && !r.inParentheses(i+1, j, end) {
		body, j := r.expr(j+1, end)
		j = r.need(j, end, "}")
		return r.mk(api.NdFilter, i, j, "", bind, body), j
	}
	l, j := r.series(j+1, end, r.bind)
	j = r.need(j, end, "}")
	return r.mk(api.NdMap, i, j, "", append([]api.Node{x}, l...)...), j
}

// bindOf returns x \in S, or a tuple of names there, as a binder.
func bindOf(x api.Node) (api.Node, bool) {
	if x.Kind != api.NdInfix || x.S != `\in` {
		return x, false
	}
	isName := func(n api.Node) bool { return n.Kind == api.NdName }
	n := api.Node{Kind: api.NdBind, At: x.At, End: x.End, L: x.L}
	switch ahead := x.L[0]; {
	case isName(ahead):
		return n, true
	case ahead.Kind == api.NdTuple && len(ahead.L) > 0 && !slices.ContainsFunc(ahead.L, func(n api.Node) bool { return !isName(n) }):
		n.N = 1
		n.L = append(slices.Clone(ahead.L), x.L[1])
		return n, true
	}
	return x, false
}

// tuple reads what begins with <<.
func (r second) tuple(i, end int, angle bool) (api.Node, int) {
	if r.at(i+1, end) == ">>" {
		return r.mk(api.NdTuple, i, i+2, ""), i + 2
	}
	l, j := r.series(i+1, end, r.whole)
	if angle && len(l) == 1 && r.at(j, end) == ">>_" {
		sub, j := r.subscript(j+1, end)
		return r.mk(api.NdAngle, i, j, "", l[0], sub), j
	}
	j = r.need(j, end, ">>")
	return r.mk(api.NdTuple, i, j, "", l...), j
}

func (r second) subscript(i, end int) (api.Node, int) {
	switch r.at(i, end) {
	case "(":
		return r.primary(i, end)
	case "<<":
		return r.tuple(i, end, false)
	}
	return r.path(i, end, r.named(api.NdName))
}

// arrowAhead reports whether |-> comes ahead of the token that closes the bracket at i.
func (r second) arrowAhead(i int) bool {
	open := 0
	for _, t := range r.l[i:] {
		if t.Kind != api.TkSign {
			continue
		}
		switch t.S {
		case "(", "[", "{", "<<":
			open++
		case ")", "]", "]_", "}", ">>", ">>_":
			open--
		}
		if open == 0 || open == 1 && t.S == "|->" {
			return open == 1
		}
	}
	return false
}

func (r second) square(i, end int) (api.Node, int) {
	for sign, kind := range map[string]int{"|->": api.NdRecord, ":": api.NdRecSet} {
		if r.at(i+1, end) == "name" && r.at(i+2, end) == sign {
			l, j := r.series(i+1, end, func(i, end int) (api.Node, int) {
				e, j := r.expr(r.need(r.need(i, end, "name"), end, sign), end)
				return r.mk(api.NdField, i, j, r.l[i].S, e), j
			})
			j = r.need(j, end, "]")
			return r.mk(kind, i, j, "", l...), j
		}
	}
	if r.arrowAhead(i) {
		l, j := r.series(i+1, end, r.bind)
		body, j := r.expr(r.need(j, end, "|->"), end)
		j = r.need(j, end, "]")
		return r.mk(api.NdFun, i, j, "", append(l, body)...), j
	}
	x, j := r.expr(i+1, end)
	switch r.at(j, end) {
	case "->":
		y, j := r.expr(j+1, end)
		j = r.need(j, end, "]")
		return r.mk(api.NdFunSet, i, j, "", x, y), j
	case "]_":
		sub, j := r.subscript(j+1, end)
		return r.mk(api.NdSquare, i, j, "", x, sub), j
	case "EXCEPT":
		l, j := r.series(j+1, end, r.update)
		j = r.need(j, end, "]")
		return r.mk(api.NdExcept, i, j, "", append([]api.Node{x}, l...)...), j
	}
	panic(refused{j, api.ErrParse})
}

func (r second) update(i, end int) (api.Node, int) {
	var l []api.Node
	j := r.need(i, end, "!")
	for len(l) == 0 || r.at(j, end) != "=" {
		from := j
		if r.at(j, end) == "." {
			j = r.need(j+1, end, "name")
			l = append(l, r.mk(api.NdStep, from, j, r.l[j-1].S))
			continue
		}
		if r.at(j, end) != "[" {
			panic(refused{j, api.ErrParse})
		}
		var indices []api.Node
		indices, j = r.exprs(j+1, end, "]")
		l = append(l, r.mk(api.NdStep, from, j, "", indices...))
	}
	e, j := r.expr(j+1, end)
	return r.mk(api.NdUpdate, i, j, "", append(l, e)...), j
}

func (r second) decl(i, end int) (api.Node, int) {
	n, j := r.named(api.NdDecl)(i, end)
	if r.at(j, end) == "(" {
		for n.N == 0 || r.at(j, end) == "," {
			j = r.need(j+1, end, "_")
			n.N++
		}
		j = r.need(j, end, ")")
		n.End = r.l[j-1].End
	}
	return n, j
}

// definition reads a definition without LOCAL.
func (r second) definition(i, end int, inModule bool) (api.Node, int) {
	j := r.need(i, end, "name")
	kind, s := api.NdDefine, r.l[i].S
	var l []api.Node
	sign := r.at(j, end)
	switch {
	case sign == "[":
		kind, inModule = api.NdFunDef, false
		l, j = r.series(j+1, end, r.bind)
		j = r.need(j, end, "]")
	case sign == "(":
		l, j = r.series(j+1, end, r.decl)
		j = r.need(j, end, ")")
	case infixTable[sign].definable:
		s, inModule = sign, false
		j = r.need(j+1, end, "name")
		l = []api.Node{r.mk(api.NdDecl, i, i+1, r.l[i].S), r.mk(api.NdDecl, j-1, j, r.l[j-1].S)}
	}
	j = r.need(j, end, "==")
	var body api.Node
	if inModule && r.at(j, end) == "INSTANCE" {
		body, j = r.instance(j, end)
	} else {
		body, j = r.expr(j, end)
	}
	return r.mk(kind, i, j, s, append(l, body)...), j
}

func (r second) instance(i, end int) (api.Node, int) {
	j := r.need(r.need(i, end, "INSTANCE"), end, "name")
	s := r.l[j-1].S
	var l []api.Node
	if r.at(j, end) == "WITH" {
		l, j = r.series(j+1, end, func(i, end int) (api.Node, int) {
			s := r.at(i, end)
			if !infixTable[s].definable {
				r.need(i, end, "name")
				s = r.l[i].S
			}
			j := r.need(i+1, end, "<-")
			e, j := r.argument(j, end, ", name rule close end "+strings.Join(unitWords, " "))
			return r.mk(api.NdSubst, i, j, s, e), j
		})
	}
	return r.mk(api.NdInstance, i, j, s, l...), j
}

func (r second) unit(i, end int) (api.Node, int) {
	word := r.at(i, end)
	switch word {
	case "LOCAL":
		n, j := r.instanceOrDefinition(i+1, end)
		n.N, n.At = 1, r.l[i].At
		return n, j
	case "CONSTANT", "CONSTANTS", "RECURSIVE":
		l, j := r.series(i+1, end, r.decl)
		if word == "RECURSIVE" {
			return r.mk(api.NdRecursive, i, j, "", l...), j
		}
		return r.mk(api.NdConstants, i, j, "", l...), j
	case "VARIABLE", "VARIABLES":
		l, j := r.series(i+1, end, func(i, end int) (api.Node, int) {
			n, j := r.named(api.NdVar)(i, end)
			if r.at(j, end) != `\in` {
				return n, j
			}
			e, j := r.expr(j+1, end)
			return r.mk(api.NdVar, i, j, n.S, e), j
		})
		return r.mk(api.NdVariables, i, j, "", l...), j
	case "ASSUME", "ASSUMPTION", "AXIOM", "THEOREM":
		kind, s, from := api.NdAssume, "", i+1
		if word == "THEOREM" {
			kind = api.NdTheorem
		}
		if r.at(from, end) == "name" && r.at(from+1, end) == "==" {
			s, from = r.l[from].S, from+2
		}
		e, j := r.expr(from, end)
		return r.mk(kind, i, j, s, e), j
	}
	return r.instanceOrDefinition(i, end)
}

func (r second) instanceOrDefinition(i, end int) (api.Node, int) {
	if r.at(i, end) == "INSTANCE" {
		return r.instance(i, end)
	}
	return r.definition(i, end, true)
}

func (r second) module(i, end int) (api.Node, int) {
	j := r.need(r.need(r.need(i, end, "rule"), end, "MODULE"), end, "name")
	s := r.l[j-1].S
	j = r.need(j, end, "rule")
	var l []api.Node
	if r.at(j, end) == "EXTENDS" {
		names, k := r.series(j+1, end, r.named(api.NdName))
		l = append(l, r.mk(api.NdExtends, j, k, "", names...))
		j = k
	}
	for r.at(j, end) != "close" {
		if r.at(j, end) == "rule" {
			j++
			continue
		}
		var n api.Node
		n, j = r.unit(j, end)
		l = append(l, n)
	}
	return r.mk(api.NdModule, i, j+1, s, l...), j + 1
}

// readSecond reads tokens from one on: a tree, and the index behind it; or the index of the error.
func readSecond(l []api.Token, from int, part func(r second, i, end int) (api.Node, int)) (n api.Node, at int, e api.Errno) {
	defer func() {
		if left, ok := recover().(refused); ok {
			n, at, e = api.Node{}, left.at, left.e
		}
	}()
	n, at = part(second{l}, from, len(l))
	if depthOf(n) > 300 {
		return api.Node{}, from, api.ErrLimit
	}
	return n, at, api.OK
}

func depthOf(n api.Node) int {
	deep := 0
	for _, e := range n.L {
		deep = max(deep, depthOf(e))
	}
	return deep + 1
}

// secondText reads a text that is just one such part.
func secondText(text string, part func(r second, i, end int) (api.Node, int)) (api.Node, int, api.Errno) {
	l, at, e := lex.Tokens(text)
	if e != api.OK {
		return api.Node{}, at, e
	}
	n, at, e := readSecond(l, 0, part)
	switch {
	case e == api.ErrLimit:
		return api.Node{}, 0, e
	case e == api.OK && at == len(l):
		return n, 0, e
	case e == api.OK:
		e = api.ErrParse
	}
	if at < len(l) {
		return api.Node{}, l[at].At, e
	}
	return api.Node{}, len(text), e
}

func secondExpr(text string) (api.Node, int, api.Errno) { return secondText(text, second.whole) }

func secondModule(text string) (api.Node, int, api.Errno) { return secondText(text, second.module) }
