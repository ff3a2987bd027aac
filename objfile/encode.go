// Package objfile: objects as bytes, in just one form.
package objfile

import (
	"tarn/api"
	"tarn/fault"
	"tarn/object"
)

const mark = "TARN"

// Encode makes an object's file.
func Encode(o api.Object) (string, error) {
	if err := object.Values(o); err != nil {
		return "", err
	}
	var w writer
	w.object(o)
	if len(w.bytes) > api.MaxFile-sumBytes {
		return "", fault.At(fault.Long, 0)
	}
	body := string(w.bytes)
	return body + sumText(body), nil
}

type writer struct {
	bytes []byte
}

// text writes bytes as they are. Behind MaxFile nothing more is written: the
// file is too long already, and an object may be far longer than memory holds.
func (w *writer) text(s string) {
	if len(w.bytes) <= api.MaxFile {
		w.bytes = append(w.bytes, s...)
	}
}

// number writes a varint, and stops as text does.
func (w *writer) number(x uint64) {
	if len(w.bytes) > api.MaxFile {
		return
	}
	for x >= 128 {
		w.bytes = append(w.bytes, byte(x%128)+128)
		x /= 128
	}
	w.bytes = append(w.bytes, byte(x))
}

// count writes a number that is known to be 0 or above.
func (w *writer) count(n int) { w.number(uint64(n)) }

func (w *writer) name(s string) {
	w.count(len(s))
	w.text(s)
}

func (w *writer) object(o api.Object) {
	w.text(mark)
	w.name(o.Name)
	w.count(len(o.Imports))
	for _, i := range o.Imports {
		w.name(i.Name)
		w.count(i.Arity)
	}
	w.count(len(o.Globals))
	for _, g := range o.Globals {
		w.global(g)
	}
}

func (w *writer) global(g api.Global) {
	w.name(g.Name)
	w.count(g.Arity)
	export := 0
	if g.Export {
		export = 1
	}
	w.count(export)
	w.count(len(g.Code))
	for _, i := range g.Code {
		w.ins(i)
	}
}

func (w *writer) ins(i api.Ins) {
	w.count(i.Op)
	switch object.KindOf(i.Op) {
	case object.Whole:
		w.number(fold(i.A))
	case object.Bound:
		w.count(i.A)
	case object.Forked:
		w.count(len(i.Alts))
		for _, a := range i.Alts {
			w.count(a.Tag)
			w.count(a.To)
		}
	}
}

// fold is 2·a, or -2·a - 1 below 0.
func fold(a int) uint64 {
	if a >= 0 {
		return 2 * uint64(a)
	}
	return 2*uint64(-(a+1)) + 1
}

// unfold is what fold was made of.
func unfold(x uint64) int {
	if x%2 == 0 {
		return int(x / 2)
	}
	return -int(x/2) - 1
}
