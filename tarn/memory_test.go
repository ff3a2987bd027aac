package tarn

import (
	"reflect"
	"testing"

	"tarn/api"
)

// roomy is a copy of the list, with spare room in which marks stand.
func roomy[T any](l []T, mark T) []T {
	full := make([]T, len(l)+3)
	for k := range full {
		full[k] = mark
	}
	copy(full, l)
	return full[:len(l)]
}

var (
	markAlt    = api.Alt{Tag: 77, To: 77}
	markIns    = api.Ins{Op: 77, A: 77}
	markImport = api.Import{Name: "mark", Arity: 77}
	markGlobal = api.Global{Name: "mark", Arity: 77}
)

// roomyObject is a copy of an object, with spare room behind each list.
func roomyObject(o api.Object) api.Object {
	o.Imports = roomy(o.Imports, markImport)
	o.Globals = roomy(o.Globals, markGlobal)
	for k := range o.Globals {
		g := &o.Globals[k]
		g.Code = roomy(g.Code, markIns)
		for i := range g.Code {
			g.Code[i].Alts = roomy(g.Code[i].Alts, markAlt)
		}
	}
	return o
}

// spread is an object with all its lists as long as their room is.
func spread(o api.Object) api.Object {
	o.Imports = o.Imports[:cap(o.Imports)]
	o.Globals = append([]api.Global(nil), o.Globals[:cap(o.Globals)]...)
	for k := range o.Globals {
		g := &o.Globals[k]
		g.Code = append([]api.Ins(nil), g.Code[:cap(g.Code)]...)
		for i := range g.Code {
			g.Code[i].Alts = g.Code[i].Alts[:cap(g.Code[i].Alts)]
		}
	}
	return o
}

func TestNothingHandedInIsWrittenInto(t *testing.T) {
	objects := []api.Object{whole(), one(0), one(0, seven, unwind), one(0, ins(api.Glob, 9), fail), one(21), one(0, ins(api.Push, 2000)), long(api.MaxFile + 1)}
	for k, o := range objects {
		in, want := roomyObject(o), roomyObject(o)
		if _, e := Encode(in); k == 0 && e != api.OK {
			t.Errorf("P4: spare room counts: %d", e)
		}
		if !reflect.DeepEqual(spread(in), spread(want)) {
			t.Errorf("P2: Encode wrote into object %d", k)
		}
		if e, at := Sound(in); k == 0 && e != api.OK {
			t.Errorf("P3: spare room counts: %d, %+v", e, at)
		}
		if !reflect.DeepEqual(spread(in), spread(want)) {
			t.Errorf("P2: Sound wrote into object %d", k)
		}
	}
}

// fill writes marks into the whole room of every list of an object, the innermost first.
func fill(o api.Object) {
	for _, g := range o.Globals {
		for _, i := range g.Code {
			fillList(i.Alts, markAlt)
		}
		fillList(g.Code, markIns)
	}
	fillList(o.Imports, markImport)
	fillList(o.Globals, markGlobal)
}

func fillList[T any](l []T, mark T) {
	l = l[:cap(l)]
	for k := range l {
		l[k] = mark
	}
}

// twoCases is an object whose lists stand one behind the other in its file, none of them the last.
func twoCases() api.Object {
	return api.Object{
		Name:    "m",
		Imports: []api.Import{{Name: "x"}, {Name: "y", Arity: 2}, {Name: "z"}},
		Globals: []api.Global{
			{Name: "a", Code: []api.Ins{fork(1, 1, 1), fork(2, 2, 2), fail}},
			{Name: "b", Code: []api.Ins{fork(1, 1, 1, 1, 1), fail}},
			{Name: "c", Code: []api.Ins{fail, fail, fail, fail, fail}},
		},
	}
}

func TestWhatComesOutIsTheCallers(t *testing.T) {
	s, _ := Encode(twoCases())
	first, e, _ := Decode(s)
	second, _, _ := Decode(s)
	if e != api.OK {
		t.Fatalf("P5: %d", e)
	}
	fill(first)
	if !reflect.DeepEqual(second, twoCases()) {
		t.Error("P2: two answers share memory")
	}
	third, e, _ := Decode(s)
	if e != api.OK || !reflect.DeepEqual(third, twoCases()) {
		t.Error("P2: an answer that was written into changes a later one")
	}
	if again, e := Encode(twoCases()); again != s || e != api.OK {
		t.Error("P2: an answer that was written into changes a later file")
	}
}

// TestNoTwoListsShare: what is written into one list of an answer, and into its spare room, is seen in no other.
func TestNoTwoListsShare(t *testing.T) {
	s, _ := Encode(twoCases())
	lists := 0
	each := func(write func(o api.Object) (clean func(o api.Object))) {
		got, _, _ := Decode(s)
		want := twoCases()
		clean := write(got)
		clean(got)
		clean(want)
		if !reflect.DeepEqual(got, want) {
			t.Errorf("P2: list %d shares memory with another one", lists)
		}
		lists++
	}
	each(func(o api.Object) func(api.Object) {
		fillList(o.Imports, markImport)
		return func(o api.Object) { clear(o.Imports) }
	})
	for k, g := range twoCases().Globals {
		for i := range g.Code {
			each(func(o api.Object) func(api.Object) {
				fillList(o.Globals[k].Code[i].Alts, markAlt)
				return func(o api.Object) { clear(o.Globals[k].Code[i].Alts) }
			})
		}
		each(func(o api.Object) func(api.Object) {
			fillList(o.Globals[k].Code, markIns)
			return func(o api.Object) { clear(o.Globals[k].Code) }
		})
	}
	each(func(o api.Object) func(api.Object) {
		fillList(o.Globals, markGlobal)
		return func(o api.Object) { clear(o.Globals) }
	})
}
