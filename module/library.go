package module

import (
	"slices"

	"foregone/api"
	"foregone/parse"
)

// library is the modules that can be used.
type library struct {
	given  []*module
	byName map[string]*module
	ways
}

// newLibrary returns the library of the given modules and of the standard ones, unless the modules are none, or do not fit together.
func newLibrary(l []api.Node) (*library, api.Errno) {
	if len(l) > api.MaxLib || slices.ContainsFunc(l, isNoModule) {
		return nil, api.ErrModule
	}
	lib := &library{byName: map[string]*module{}, ways: newWays()}
	for _, n := range l {
		if lib.byName[n.S] != nil {
			return nil, api.ErrDouble
		}
		lib.given = append(lib.given, lib.add(n))
	}
	for _, name := range []string{"Naturals", "Integers", "Sequences", "FiniteSets", "TLC"} {
		if lib.byName[name] == nil {
			lib.add(api.Node{Kind: api.NdModule, S: name})
		}
	}
	for _, m := range lib.given {
		if slices.ContainsFunc(m.uses, func(name string) bool { return lib.byName[name] == nil }) {
			return nil, api.ErrModule
		}
	}
	if len(lib.order()) < len(lib.given) {
		return nil, api.ErrCycle
	}
	return lib, api.OK
}

func isNoModule(n api.Node) bool { return parse.Check(n) != api.OK }

// add adds a module.
func (lib *library) add(n api.Node) *module {
	m := newModule(lib, n)
	lib.byName[m.name] = m
	return m
}

// order returns the names of the given modules, each one behind those that it uses; those that use each other are left out.
func (lib *library) order() []string {
	var names []string
	named := map[string]bool{}
	isNext := func(m *module) bool {
		return !named[m.name] && !slices.ContainsFunc(m.uses, func(s string) bool { return lib.isGiven(s) && !named[s] })
	}
	for range lib.given {
		if i := slices.IndexFunc(lib.given, isNext); i >= 0 {
			name := lib.given[i].name
			named[name] = true
			names = append(names, name)
		}
	}
	return names
}

// isGiven reports whether a module with this name is given.
func (lib *library) isGiven(name string) bool {
	return slices.ContainsFunc(lib.given, func(m *module) bool { return m.name == name })
}

// used returns the names of the modules that a module uses, those first that it extends, each one once.
func used(n api.Node) []string {
	var names []string
	seen := map[string]bool{}
	for name := range mentioned(n) {
		if !seen[name] {
			seen[name] = true
			names = append(names, name)
		}
	}
	return names
}

// mentioned yields the names of modules in the units of a module.
func mentioned(n api.Node) func(yield func(string) bool) {
	return func(yield func(string) bool) {
		for _, u := range n.L {
			switch {
			case u.Kind == api.NdExtends:
				for _, e := range u.L {
					if !yield(e.S) {
						return
					}
				}
			case u.Kind == api.NdInstance:
				if !yield(u.S) {
					return
				}
			case isNamedInstance(u):
				if !yield(u.L[len(u.L)-1].S) {
					return
				}
			}
		}
	}
}

// isNamedInstance reports whether a unit is a definition whose body is an instance.
func isNamedInstance(u api.Node) bool {
	return u.Kind == api.NdDefine && u.L[len(u.L)-1].Kind == api.NdInstance
}
