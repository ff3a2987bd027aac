package objfile

import (
	"strings"

	"tarn/api"
	"tarn/fault"
	"tarn/object"
)

// minFile is how many bytes a file has at least: the mark and the sum.
const minFile = len(mark) + sumBytes

// Decode reads an object's file.
func Decode(file string) (api.Object, error) {
	if len(file) > api.MaxFile {
		return api.Object{}, fault.At(fault.Long, 0)
	}
	if len(file) < minFile {
		return api.Object{}, fault.At(fault.Short, len(file))
	}
	end := len(file) - sumBytes
	if file[end:] != sumText(file[:end]) {
		return api.Object{}, fault.At(fault.Sum, end)
	}
	r := reader{body: file[:end]}
	o, err := r.object()
	if err == nil {
		err = object.Sound(o)
	}
	if err != nil {
		return api.Object{}, err
	}
	return o, nil
}

// object reads all of the body.
func (r *reader) object() (api.Object, error) {
	var o api.Object
	if err := r.mark(); err != nil {
		return o, err
	}
	name, err := r.name()
	if err != nil {
		return o, err
	}
	imports, err := r.imports()
	if err != nil {
		return o, err
	}
	globals, err := r.globals(imports)
	if err != nil {
		return o, err
	}
	if r.at < len(r.body) {
		return o, fault.At(fault.More, r.at)
	}
	return api.Object{Name: strings.Clone(name), Imports: imports, Globals: globals}, nil
}

// imports grows its list as it reads: how many are said to come may be any number.
func (r *reader) imports() ([]api.Import, error) {
	n, err := r.number()
	if err != nil {
		return nil, err
	}
	var l []api.Import
	last := ""
	for range n {
		name, err := r.nameBehind(last, nil)
		if err != nil {
			return nil, err
		}
		arity, err := r.within(0, api.MaxArity)
		if err != nil {
			return nil, err
		}
		l = append(l, api.Import{Name: strings.Clone(name), Arity: arity})
		last = name
	}
	return l, nil
}

func (r *reader) globals(imports []api.Import) ([]api.Global, error) {
	n, err := r.number()
	if err != nil {
		return nil, err
	}
	var l []api.Global
	last := ""
	for range n {
		name, err := r.nameBehind(last, imports)
		if err != nil {
			return nil, err
		}
		g, err := r.globalOf(name)
		if err != nil {
			return nil, err
		}
		l = append(l, g)
		last = name
	}
	return l, nil
}

// globalOf reads what stands behind a global's name.
func (r *reader) globalOf(name string) (api.Global, error) {
	arity, err := r.within(0, api.MaxArity)
	if err != nil {
		return api.Global{}, err
	}
	export, err := r.within(0, 1)
	if err != nil {
		return api.Global{}, err
	}
	code, err := r.code()
	if err != nil {
		return api.Global{}, err
	}
	return api.Global{Name: strings.Clone(name), Arity: arity, Export: export == 1, Code: code}, nil
}

func (r *reader) code() ([]api.Ins, error) {
	n, err := r.within(0, object.MaxCode)
	if err != nil {
		return nil, err
	}
	var code []api.Ins
	for range n {
		i, err := r.ins()
		if err != nil {
			return nil, err
		}
		code = append(code, i)
	}
	return code, nil
}

func (r *reader) ins() (api.Ins, error) {
	op, err := r.within(0, api.Fail)
	if err != nil {
		return api.Ins{}, err
	}
	i := api.Ins{Op: op}
	switch object.KindOf(op) {
	case object.Whole:
		i.A, err = r.whole()
	case object.Bound:
		least, most := object.Bounds(op)
		i.A, err = r.within(least, most)
	case object.Forked:
		i.Alts, err = r.alts()
	}
	return i, err
}

func (r *reader) whole() (int, error) {
	x, err := r.number()
	return unfold(x), err
}

func (r *reader) alts() ([]api.Alt, error) {
	n, err := r.within(1, object.MaxAlts)
	if err != nil {
		return nil, err
	}
	var l []api.Alt
	var seen [object.MaxTag + 1]bool
	for range n {
		start := r.at
		tag, err := r.within(0, object.MaxTag)
		if err != nil {
			return nil, err
		}
		if seen[tag] {
			return nil, fault.At(fault.Order, start)
		}
		seen[tag] = true
		to, err := r.within(0, object.MaxTo)
		if err != nil {
			return nil, err
		}
		l = append(l, api.Alt{Tag: tag, To: to})
	}
	return l, nil
}
