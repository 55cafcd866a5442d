package level

import "foregone/api"

// substitution puts expressions in the place of the variables from a number on.
type substitution struct {
	budget
	from int
	l    []api.Expr
}

// in returns an expression in a scope of so many values with the others in their places.
func (s *substitution) in(e api.Expr, size int) api.Expr {
	if e.Kind == api.EBound && e.N >= s.from {
		if n := e.N - s.from; n < len(s.l) {
			return s.moved(s.l[n], size-len(s.l)-s.from)
		}
		e.N -= len(s.l)
	}
	s.spend()
	c := bare(e)
	for i, x := range e.L {
		c.L[i] = s.in(x, size+sees(e, i))
	}
	return c
}

// moved returns an expression in whose place there are so many more variables, ahead of those that it binds itself.
func (s *substitution) moved(e api.Expr, more int) api.Expr {
	s.spend()
	c := bare(e)
	if c.Kind == api.EBound && c.N >= s.from {
		c.N += more
	}
	for i, x := range e.L {
		c.L[i] = s.moved(x, more)
	}
	return c
}
