package compile

import (
	"slices"

	"tarn/api"
	"tarn/object"
	"tarn/syntax"
)

// local is a name that stands for a cell of the global's own, told from the
// lowest, which is 0: so that it stays while cells come and go above it.
type local struct {
	name string
	at   int
}

// root is the place of the cell that the global's value is written into.
const root = 0

// coder writes the code of one global.
type coder struct {
	unit   *unit
	name   string
	code   []api.Ins
	depth  int
	locals []local // the innermost is the last one
}

// newCoder begins where the first of the args is on the top, and the root under them all.
func newCoder(u *unit, t task) *coder {
	c := &coder{unit: u, name: t.name, depth: len(t.params) + 1}
	for k, p := range t.params {
		c.locals = append(c.locals, local{p, len(t.params) - k})
	}
	return c
}

func (c *coder) put(op, a int) {
	i := api.Ins{Op: op, A: a}
	c.code = append(c.code, i)
	c.depth = object.Behind(i, c.depth)
}

// update takes the top, and makes the cell at this place an Ind of it.
func (c *coder) update(at int) { c.put(api.Update, c.depth-2-at) }

// result writes the rest of the code: the global's value is that of this Expr.
//
// The value is worked out ahead of the update, for calls too: the root then
// leads straight to it, and never to a row of Inds that is gone through at
// each use.
func (c *coder) result(e syntax.Expr) {
	switch x := e.(type) {
	case syntax.Let:
		c.bind(x)
		c.result(x.Body)
	case syntax.Case:
		c.fork(x, func(b syntax.Branch) { c.result(b.Body) })
	default:
		c.value(e)
		c.update(root)
		if c.depth > 1 {
			c.put(api.Pop, c.depth-1)
		}
		c.put(api.Unwind, 0)
	}
}

// value puts what comes of an Expr that is needed.
func (c *coder) value(e syntax.Expr) {
	switch x := e.(type) {
	case syntax.Let:
		c.bind(x)
		c.value(x.Body)
		c.leave(len(x.Names))
	case syntax.Case:
		c.join(x)
	case syntax.Op:
		c.value(x.Left)
		c.value(x.Right)
		c.put(x.Op, 0)
	case syntax.Name, syntax.Call:
		c.graph(e)
		c.put(api.Eval, 0)
	default: // a number or record is its own value
		c.graph(e)
	}
}

// graph puts the cells that stand for an Expr that may not be needed: nothing
// is worked out, so what would have to be becomes a global of its own.
func (c *coder) graph(e syntax.Expr) {
	switch x := e.(type) {
	case syntax.Number:
		c.put(api.Int, x.Value)
	case syntax.Name:
		c.look(x.Text)
	case syntax.Call:
		c.graphs(x.Args)
		c.graph(x.Func)
		for range x.Args {
			c.put(api.Ap, 0)
		}
	case syntax.Con:
		c.graphs(x.Fields)
		c.put(api.Pack, object.PackOf(x.Tag, len(x.Fields)))
	case syntax.Let:
		c.bind(x)
		c.graph(x.Body)
		c.leave(len(x.Names))
	default: // an op or case
		c.wait(e)
	}
}

// graphs puts the cells of several Exprs, those of the first one on the top.
// All of them are on the stack at once: a text is so short that they are never
// more than MaxStack, as each takes two bytes of it, or more.
func (c *coder) graphs(l []syntax.Expr) {
	for _, e := range slices.Backward(l) {
		c.graph(e)
	}
}

// wait puts a call of the global that works out an Expr when it is needed.
func (c *coder) wait(e syntax.Expr) {
	l := c.spokenOf(e, nil, nil)
	name := c.unit.wait(c.name, l, e)
	for _, n := range slices.Backward(l) {
		c.look(n)
	}
	c.look(name)
	for range l {
		c.put(api.Ap, 0)
	}
}

// look puts what a name stands for.
func (c *coder) look(name string) {
	for _, l := range slices.Backward(c.locals) {
		if l.name == name {
			c.put(api.Push, c.depth-1-l.at)
			return
		}
	}
	c.put(api.Glob, slices.Index(c.unit.known, name))
}
