package object

import (
	"tarn/api"
	"tarn/fault"
)

// Check looks whether an object's values are good, and whether it is sound.
func Check(o api.Object) error {
	if err := Values(o); err != nil {
		return err
	}
	return Sound(o)
}

// Sound looks whether an object whose values are good is sound.
func Sound(o api.Object) error {
	known := len(o.Imports) + len(o.Globals)
	for k, g := range o.Globals {
		if at, bad := wildIndex(g.Code, known); bad {
			return fault.In(fault.Index, k, at)
		}
		if at, bad := wildJump(g.Code); bad {
			return fault.In(fault.Jump, k, at)
		}
		if at, bad := wrongDepth(g.Code, g.Arity+1); bad {
			return fault.In(fault.Depth, k, at)
		}
	}
	return nil
}

// wildIndex finds the first Glob of a number that none of the known globals has.
func wildIndex(code []api.Ins, known int) (int, bool) {
	for at, i := range code {
		if i.Op == api.Glob && i.A >= known {
			return at, true
		}
	}
	return 0, false
}

// wildJump finds the first instruction that goes on where none is.
func wildJump(code []api.Ins) (int, bool) {
	if len(code) == 0 {
		return 0, true
	}
	for at, i := range code {
		if leaves(i, len(code)) {
			return at, true
		}
	}
	last := len(code) - 1
	return last, !ends(code[last].Op)
}

// leaves: whether a Jump or Case goes to or behind the end.
func leaves(i api.Ins, end int) bool {
	if i.Op == api.Jump {
		return i.A >= end
	}
	for _, a := range i.Alts {
		if a.To >= end {
			return true
		}
	}
	return false
}

// What stands for an instruction in place of the one d that it is reached with.
const (
	unreached = -1
	several   = -2
)

// walk finds with which d each instruction is reached. An instruction only
// ever goes from unreached to one d and to several, so it is left at most
// twice, and the order in which they are left does not matter.
type walk struct {
	code  []api.Ins
	depth []int
	todo  []int
}

// wrongDepth finds the least instruction that is reached with several d, or
// with one that does not fit, of code that goes on only where instructions are.
func wrongDepth(code []api.Ins, d int) (int, bool) {
	w := walk{code: code, depth: make([]int, len(code))}
	for at := range w.depth {
		w.depth[at] = unreached
	}
	w.reach(0, d)
	for len(w.todo) > 0 {
		at := w.todo[len(w.todo)-1]
		w.todo = w.todo[:len(w.todo)-1]
		w.leave(at)
	}
	for at, d := range w.depth {
		if d == several || d != unreached && !fits(code[at], d) {
			return at, true
		}
	}
	return 0, false
}

// reach notes that an instruction is reached with d (or with several).
func (w *walk) reach(at, d int) {
	old := w.depth[at]
	if old == d || old == several {
		return
	}
	if old != unreached {
		d = several
	}
	w.depth[at] = d
	w.todo = append(w.todo, at)
}

// leave carries on what an instruction was reached with, unless it cannot be done so.
func (w *walk) leave(at int) {
	i, d := w.code[at], w.depth[at]
	if d != several {
		if !fits(i, d) {
			return
		}
		d = Behind(i, d)
	}
	switch i.Op {
	case api.Unwind, api.Fail:
	case api.Jump:
		w.reach(i.A, d)
	case api.Case:
		for _, a := range i.Alts {
			w.reach(a.To, d)
		}
	default:
		w.reach(at+1, d)
	}
}
