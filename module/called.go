package module

import "strings"

// mentions returns what a name is called that an NdRecursive mentions.
func (m *module) mentions(u unit, name string) string {
	if x := u.home.names[name]; x.kind == aDefinition {
		return m.calls(u.via, u.home, name, x.local)
	}
	return u.via.ahead() + name
}

// ahead returns the names of instances, each one with the sign behind it, that stand ahead of a name that means nothing to them.
func (p *path) ahead() string {
	names := ""
	for ; p != nil; p = p.rest {
		if !p.alone {
			names += p.block.name + "!"
		}
	}
	return names
}

// calls returns the name in the flat form of m of a definition that has a name in its own module, and is local there or not.
func (m *module) calls(via *path, home *module, name string, local bool) string {
	name, _ = m.called(via, home, name, local)
	return name
}

func (m *module) called(via *path, home *module, name string, local bool) (string, bool) {
	if via != nil {
		name, local = via.of.called(via.rest, home, name, local)
		name, local = via.calls(name, local)
		home = via.home
	}
	if local && home != m {
		name = m.paths[home.name] + plain(name)
	}
	return name, local
}

// nameOf returns what is called so in the flat form of m.
func (m *module) nameOf(x meaning) string {
	if x.kind != aDefinition {
		return x.name
	}
	return m.calls(x.via, x.item.home, x.item.own, x.item.private)
}

// plain returns a name, or the name of a sign.
func plain(name string) string {
	if isWord(name) {
		return name
	}
	const digits = "0123456789abcdef"
	var b strings.Builder
	b.WriteByte('x')
	for i := range len(name) {
		b.WriteByte(digits[name[i]>>4])
		b.WriteByte(digits[name[i]&15])
	}
	return b.String()
}

// isWord reports whether what can be defined is a name, not a sign.
func isWord(name string) bool {
	c := name[0]
	return c == '_' || '0' <= c && c <= '9' || 'A' <= c && c <= 'Z' || 'a' <= c && c <= 'z'
}

// isQualified reports whether a name has several parts.
func isQualified(name string) bool { return strings.Contains(name, "!") }

// isLanguage reports whether a name is one of the language.
func isLanguage(name string) bool {
	switch name {
	case "Int", "Nat", "Seq", "Len", "Head", "Tail", "Append", "SubSeq", "Cardinality":
		return true
	}
	return false
}
