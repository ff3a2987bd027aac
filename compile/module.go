// Package compile makes an object of a module that was read.
package compile

import (
	"slices"
	"strconv"
	"strings"

	"tarn/api"
	"tarn/syntax"
)

// mark stands in the names of globals that are no defs, and in no name of a text.
const mark = "#"

// task is a global whose code is still to be written: a def, or an Expr of one
// that waits till it is needed, with the locals that it speaks of as params.
type task struct {
	name   string
	params []string
	body   syntax.Expr
}

// unit is a module that is being compiled. Till all globals are known, a Glob
// has the place of its global's name in known for its number.
type unit struct {
	known   []string
	todo    []task
	globals []api.Global
}

// Module makes the object of a module in which every name stands for something.
func Module(m syntax.Module) api.Object {
	var u unit
	imports := importsOf(m)
	for _, i := range imports {
		u.known = append(u.known, i.Name)
	}
	for _, d := range m.Defs {
		u.add(task{strings.Clone(d.Name.Text), texts(d.Params), d.Body})
	}
	for len(u.todo) > 0 {
		t := u.todo[0]
		u.todo = u.todo[1:]
		u.globals = append(u.globals, u.global(t))
	}
	u.sort(len(imports))
	return api.Object{Name: strings.Clone(m.Name), Imports: imports, Globals: u.globals}
}

// importsOf gives a module's imports as an object has them.
func importsOf(m syntax.Module) []api.Import {
	var l []api.Import
	for _, i := range m.Imports {
		l = append(l, api.Import{Name: strings.Clone(i.Name.Text), Arity: i.Arity})
	}
	slices.SortFunc(l, func(a, b api.Import) int { return strings.Compare(a.Name, b.Name) })
	return l
}

func texts(l syntax.Names) []string {
	var out []string
	for _, n := range l {
		out = append(out, n.Text)
	}
	return out
}

func (u *unit) add(t task) {
	u.known = append(u.known, t.name)
	u.todo = append(u.todo, t)
}

// wait makes a global of an Expr that stands in the global of this name, and gives its name.
func (u *unit) wait(of string, params []string, body syntax.Expr) string {
	def, _, _ := strings.Cut(of, mark)
	name := def + mark + strconv.Itoa(len(u.known))
	u.add(task{name, params, body})
	return name
}

func (u *unit) global(t task) api.Global {
	c := newCoder(u, t)
	c.result(t.body)
	return api.Global{Name: t.name, Arity: len(t.params), Export: !strings.Contains(t.name, mark), Code: c.code}
}

// sort puts the globals in order, and gives each Glob the number that its global has then.
func (u *unit) sort(imports int) {
	slices.SortFunc(u.globals, func(a, b api.Global) int { return strings.Compare(a.Name, b.Name) })
	inOrder := slices.Clone(u.known)
	slices.Sort(inOrder[imports:])
	for _, g := range u.globals {
		for k, i := range g.Code {
			if i.Op == api.Glob {
				g.Code[k].A = slices.Index(inOrder, u.known[i.A])
			}
		}
	}
}
