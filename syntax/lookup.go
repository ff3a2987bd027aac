package syntax

import (
	"slices"

	"tarn/api"
	"tarn/fault"
)

// lookup goes through the Exprs of a module, and keeps the fault with the least place.
type lookup struct {
	globals Names
	kind    error
	at      int
}

// lookUp looks whether every name stands for something, and whether nowhere too many are known.
func lookUp(m Module) error {
	var l lookup
	for _, i := range m.Imports {
		l.globals = append(l.globals, i.Name)
	}
	for _, d := range m.Defs {
		l.globals = append(l.globals, d.Name)
	}
	for _, d := range m.Defs {
		l.part(Part{d.Body, d.Params}, nil)
	}
	if l.kind == nil {
		return nil
	}
	return fault.At(l.kind, l.at)
}

// part looks at an Expr within one in which these names are known.
func (l *lookup) part(p Part, known Names) {
	for k, n := range p.Names {
		if len(known)+k >= api.MaxArity {
			l.note(fault.Deep, n.At)
		}
	}
	l.expr(p.Expr, append(slices.Clip(known), p.Names...))
}

func (l *lookup) expr(e Expr, known Names) {
	if n, ok := e.(Name); ok && !known.Has(n.Text) && !l.globals.Has(n.Text) {
		l.note(fault.Name, n.At)
	}
	for _, p := range e.Parts() {
		l.part(p, known)
	}
}

func (l *lookup) note(kind error, at int) {
	if l.kind == nil || at < l.at {
		l.kind, l.at = kind, at
	}
}
