package parse

import "foregone/api"

// failure is an error, and the index of the token that cannot be read. Reading is left by a panic with it.
type failure struct {
	at int
	e  api.Errno
}

// cursor is a place in a list of tokens.
type cursor struct {
	tokens  []api.Token
	at      int   // the token that is looked at next
	columns []int // the columns of the bulleted lists within whose items the place is, the innermost one last
}

// kind returns the kind of the token i; 0 if it does not belong to the text, or to the item of a list that is read.
func (c *cursor) kind(i int) int {
	if i >= len(c.tokens) {
		return 0
	}
	// Columns grow inwards: what the innermost list lets pass belongs to those around it, too.
	if n := len(c.columns); n > 0 && c.tokens[i].Col <= c.columns[n-1] {
		return 0
	}
	return c.tokens[i].Kind
}

// word returns the token i if it is a sign or a reserved word; otherwise "".
func (c *cursor) word(i int) string {
	kind := c.kind(i)
	if kind != api.TkSign && kind != api.TkKey {
		return ""
	}
	s := c.tokens[i].S
	// Tokens that were cut out of no text may have a sign's text and the kind of reserved words, or the other way round: they are neither.
	if beginsReserved(s) != (kind == api.TkKey) {
		return ""
	}
	return s
}

// beginsReserved tells the reserved words from the signs of the grammar: all of them begin with a capital letter, and no sign does.
func beginsReserved(s string) bool { return s != "" && s[0] >= 'A' && s[0] <= 'Z' }

// here returns the next token if it is a sign or a reserved word; otherwise "".
func (c *cursor) here() string { return c.word(c.at) }

// isName reports whether the next token is a name.
func (c *cursor) isName() bool { return c.kind(c.at) == api.TkName }

// take passes over the next token.
func (c *cursor) take() { c.at++ }

// fail ends the reading: the next token cannot be read.
func (c *cursor) fail(e api.Errno) { panic(failure{c.at, e}) }

// expect passes over a sign or a reserved word, which has to stand here.
func (c *cursor) expect(word string) {
	if c.here() != word {
		c.fail(api.ErrParse)
	}
	c.take()
}

// expectKind passes over a token of a kind, which has to stand here.
func (c *cursor) expectKind(kind int) {
	if c.kind(c.at) != kind {
		c.fail(api.ErrParse)
	}
	c.take()
}

// expectEnd checks that no token is left.
func (c *cursor) expectEnd() {
	if c.at < len(c.tokens) {
		c.fail(api.ErrParse)
	}
}

// name reads a name.
func (c *cursor) name() string {
	c.expectKind(api.TkName)
	return c.tokens[c.at-1].S
}

// placed returns a node that goes from the token from to the one that was read last.
func (c *cursor) placed(n api.Node, from int) api.Node {
	n.At, n.End = c.tokens[from].At, c.tokens[c.at-1].End
	return n
}

// leaf reads a token as a node.
func (c *cursor) leaf(n api.Node) api.Node {
	c.take()
	return c.placed(n, c.at-1)
}

// nameNode reads a name as a node of a kind.
func (c *cursor) nameNode(kind int) api.Node {
	from := c.at
	return c.placed(api.Node{Kind: kind, S: c.name()}, from)
}
