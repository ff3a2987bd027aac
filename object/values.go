// Package object: what objects are made of, and when one is sound.
package object

import (
	"tarn/api"
	"tarn/fault"
)

// Values looks whether everything in an object can stand in a file, however
// long that would be. The fault has no place: the document tells none.
func Values(o api.Object) error {
	if !IsName(o.Name) || !goodImports(o.Imports) || !goodGlobals(o.Globals, o.Imports) {
		return fault.Value
	}
	return nil
}

func goodImports(l []api.Import) bool {
	last := ""
	for _, i := range l {
		if !IsName(i.Name) || i.Name <= last || !isArity(i.Arity) {
			return false
		}
		last = i.Name
	}
	return true
}

func goodGlobals(l []api.Global, imports []api.Import) bool {
	last := ""
	for _, g := range l {
		if !IsName(g.Name) || g.Name <= last || Imported(imports, g.Name) {
			return false
		}
		if !isArity(g.Arity) || !goodCode(g.Code) {
			return false
		}
		last = g.Name
	}
	return true
}

func isArity(n int) bool { return 0 <= n && n <= api.MaxArity }

func goodCode(code []api.Ins) bool {
	if len(code) > MaxCode {
		return false
	}
	for _, i := range code {
		if !goodIns(i) {
			return false
		}
	}
	return true
}

func goodIns(i api.Ins) bool {
	if !IsOp(i.Op) {
		return false
	}
	switch KindOf(i.Op) {
	case Whole:
		return len(i.Alts) == 0
	case Bound:
		least, most := Bounds(i.Op)
		return len(i.Alts) == 0 && least <= i.A && i.A <= most
	case Forked:
		return i.A == 0 && goodAlts(i.Alts)
	}
	return i.A == 0 && len(i.Alts) == 0
}

func goodAlts(l []api.Alt) bool {
	if len(l) == 0 || len(l) > MaxAlts {
		return false
	}
	var seen [MaxTag + 1]bool
	for _, a := range l {
		if a.Tag < 0 || a.Tag > MaxTag || seen[a.Tag] || a.To < 0 || a.To > MaxTo {
			return false
		}
		seen[a.Tag] = true
	}
	return true
}
