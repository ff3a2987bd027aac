package compile

import (
	"slices"

	"tarn/api"
	"tarn/syntax"
)

// bind puts what the names of a let or letrec stand for, and makes them known.
func (c *coder) bind(l syntax.Let) {
	base := c.depth
	if l.Rec {
		c.put(api.Alloc, len(l.Names))
		c.know(l.Names, base)
		for k, e := range l.Exprs {
			c.knot(e)
			c.update(base + k)
		}
		return
	}
	for _, e := range l.Exprs {
		c.graph(e)
	}
	c.know(l.Names, base)
}

// knot puts what a name of a letrec stands for. A name or let may come to a
// cell that is there already; the update would then put an Ind ahead of it,
// again in each call, and rows of them would grow. So it waits to be needed
// as what has to be worked out does, and leads to a value then.
func (c *coder) knot(e syntax.Expr) {
	switch e.(type) {
	case syntax.Name, syntax.Let:
		c.wait(e)
	default:
		c.graph(e)
	}
}

// know makes names known that stand for cells from this place on.
func (c *coder) know(l syntax.Names, base int) {
	for k, n := range l {
		c.locals = append(c.locals, local{n.Text, base + k})
	}
}

// leave takes out the cells of the innermost names, from under the top.
func (c *coder) leave(n int) {
	c.locals = c.locals[:len(c.locals)-n]
	if n > 0 {
		c.put(api.Slide, n)
	}
}

// fork decides a case; then writes the code of a branch, whose names are known there.
func (c *coder) fork(x syntax.Case, then func(syntax.Branch)) {
	c.value(x.Expr)
	at, depth, locals := len(c.code), c.depth, len(c.locals)
	c.put(api.Case, 0)
	var alts []api.Alt
	for _, b := range x.Branches {
		alts = append(alts, api.Alt{Tag: b.Tag, To: len(c.code)})
		c.depth, c.locals = depth, c.locals[:locals]
		c.put(api.Split, len(b.Names))
		for k, n := range b.Names {
			c.locals = append(c.locals, local{n.Text, c.depth - 1 - k})
		}
		then(b)
	}
	c.code[at].Alts = alts
}

// join puts the value of a case: its branches come together again behind it.
func (c *coder) join(x syntax.Case) {
	var jumps []int
	c.fork(x, func(b syntax.Branch) {
		c.value(b.Body)
		c.leave(len(b.Names))
		jumps = append(jumps, len(c.code))
		c.put(api.Jump, 0)
	})
	for _, at := range jumps {
		c.code[at].A = len(c.code)
	}
}

// spokenOf puts behind found the locals of which an Expr speaks, each one
// once, but for what the names that became known in it on the way hide.
func (c *coder) spokenOf(e syntax.Expr, hidden syntax.Names, found []string) []string {
	if n, ok := e.(syntax.Name); ok && !hidden.Has(n.Text) && c.isLocal(n.Text) && !slices.Contains(found, n.Text) {
		return append(found, n.Text)
	}
	for _, p := range e.Parts() {
		found = c.spokenOf(p.Expr, append(slices.Clip(hidden), p.Names...), found)
	}
	return found
}

func (c *coder) isLocal(name string) bool {
	return slices.ContainsFunc(c.locals, func(l local) bool { return l.name == name })
}
