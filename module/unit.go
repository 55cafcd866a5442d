package module

import (
	"math"

	"foregone/api"
)

// module is a module that can be used, with what is known of its flat form.
type module struct {
	lib     *library
	name    string
	node    api.Node
	uses    []string
	settled bool // whether its units have been gone through

	parts   []*module          // the modules whose units its flat form has: those that it extends, and itself
	paths   map[string]string  // what the names of these modules' local definitions begin with
	units   []unit             // its own units, and those of its instances, with their names in this module
	names   map[string]meaning // what plain names and signs mean
	taken   map[string]bool    // the qualified names in its flat form
	hidden  map[string]bool    // the names of instances that are local in a module that it extends
	defines map[string]bool    // the operators that its own units define
	bound   map[string]bool    // the names that are bound in definitions among its units
	given   map[string]bool    // the names that are bound in its assumptions
	within  map[string]bool    // the modules of its instances whose bound names are among its own
	huge    bool               // whether it has more definitions than a flat module can have nodes: some of them are not among units
	longest [2]int             // the lengths of the longest names of its definitions: of those that are not local, and of those that are
}

func newModule(lib *library, n api.Node) *module {
	m := &module{lib: lib, name: n.S, node: n, uses: used(n)}
	m.paths, m.names = map[string]string{}, map[string]meaning{}
	m.taken, m.hidden, m.defines = map[string]bool{}, map[string]bool{}, map[string]bool{}
	m.bound, m.given, m.within = map[string]bool{}, map[string]bool{}, map[string]bool{}
	m.longest = [2]int{math.MinInt32, math.MinInt32}
	return m
}

// item is a unit as it was written, or what was written instead of one.
type item struct {
	kind    int
	home    *module         // the module that has it
	tree    func() api.Node // the unit, with the names that its module has for what it uses
	at      int
	written string // the name of a definition as it was written
	own     string // its name in its own module
	private bool   // whether it is local in its own module
	args    int    // the number of its parameters
	block   *block // of an NdInstance
}

// unit is a unit of a flat form.
type unit struct {
	*item
	via   *path  // the instances by which it came
	name  string // of a definition
	local bool
}

// isDefinition reports whether a unit is a definition.
func (u unit) isDefinition() bool { return u.kind == api.NdDefine || u.kind == api.NdFunDef }

// path is instances within each other: each one is written in the module of the one ahead.
type path struct {
	*block
	rest *path
}

// What names mean.
const (
	nothing    = iota // what an NdRecursive mentions and does not declare
	aParameter        // a constant or a variable
	aDefinition
	anInstance // a definition whose body is an instance
	awaited    // a definition that an NdRecursive declares, and that stands further down
)

// meaning is what a name means in a module.
type meaning struct {
	kind  int
	name  string
	args  int
	local bool
	via   *path // of a definition: how it came
	item  *item
	block *block // of an instance
}

// means returns what the name of a definition means.
func (u unit) means() meaning {
	return meaning{kind: aDefinition, name: u.name, args: u.args, local: u.local, via: u.via, item: u.item}
}

// form yields the units of the flat form, with their names.
func (m *module) form() func(yield func(unit) bool) {
	return func(yield func(unit) bool) {
		for _, p := range m.parts {
			for _, u := range p.units {
				if u.local && p != m {
					u.name = m.paths[p.name] + plain(u.name)
				}
				if !yield(u) {
					return
				}
			}
		}
	}
}

// declared yields the names of a unit, with what they mean.
func (m *module) declared(u unit) func(yield func(string, meaning) bool) {
	switch u.kind {
	case api.NdConstants, api.NdVariables:
		return func(yield func(string, meaning) bool) {
			for _, d := range u.tree().L {
				if !yield(d.S, parameter(d)) {
					return
				}
			}
		}
	case api.NdDefine, api.NdFunDef:
		return func(yield func(string, meaning) bool) { yield(u.name, u.means()) }
	case api.NdRecursive:
		return func(yield func(string, meaning) bool) {
			for _, d := range u.tree().L {
				if !yield(m.mentions(u, d.S), meaning{}) {
					return
				}
			}
		}
	}
	return func(yield func(string, meaning) bool) {}
}

// parameter returns what the name of an NdDecl or NdVar means.
func parameter(d api.Node) meaning { return meaning{kind: aParameter, name: d.S, args: d.N} }
