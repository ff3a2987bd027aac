package tarn

import (
	"reflect"
	"strconv"
	"strings"
	"testing"
	"unsafe"

	"tarn/api"
)

// roomy is a copy of the list, with spare room in which marks stand.
func roomy[T any](l []T, mark T) []T {
	full := make([]T, len(l)+3)
	for k := range full {
		full[k] = mark
	}
	copy(full, l)
	return full[:len(l)]
}

var (
	markAlt    = api.Alt{Tag: 77, To: 77}
	markIns    = api.Ins{Op: 77, A: 77}
	markImport = api.Import{Name: "mark", Arity: 77}
	markGlobal = api.Global{Name: "mark", Arity: 77}
)

// roomyObject is a copy of an object, with spare room behind each list.
func roomyObject(o api.Object) api.Object {
	o.Imports = roomy(o.Imports, markImport)
	o.Globals = roomy(o.Globals, markGlobal)
	for k := range o.Globals {
		g := &o.Globals[k]
		g.Code = roomy(g.Code, markIns)
		for i := range g.Code {
			g.Code[i].Alts = roomy(g.Code[i].Alts, markAlt)
		}
	}
	return o
}

// spread is an object with all its lists as long as their room is.
func spread(o api.Object) api.Object {
	o.Imports = o.Imports[:cap(o.Imports)]
	o.Globals = append([]api.Global(nil), o.Globals[:cap(o.Globals)]...)
	for k := range o.Globals {
		g := &o.Globals[k]
		g.Code = append([]api.Ins(nil), g.Code[:cap(g.Code)]...)
		for i := range g.Code {
			g.Code[i].Alts = g.Code[i].Alts[:cap(g.Code[i].Alts)]
		}
	}
	return o
}

func TestNothingHandedInIsWrittenInto(t *testing.T) {
	objects := []api.Object{whole(), one(0), one(0, seven, unwind), one(0, ins(api.Glob, 9), fail), one(21), one(0, ins(api.Push, 2000)), long(api.MaxFile + 1)}
	for k, o := range objects {
		in, want := roomyObject(o), roomyObject(o)
		if _, e := Encode(in); k == 0 && e != api.OK {
			t.Errorf("P4: spare room counts: %d", e)
		}
		if !reflect.DeepEqual(spread(in), spread(want)) {
			t.Errorf("P2: Encode wrote into object %d", k)
		}
		if e, at := Sound(in); k == 0 && e != api.OK {
			t.Errorf("P3: spare room counts: %d, %+v", e, at)
		}
		if !reflect.DeepEqual(spread(in), spread(want)) {
			t.Errorf("P2: Sound wrote into object %d", k)
		}
	}
}

// together are objects that link, with every kind of list.
func together() []api.Object {
	dep := func(name string, arity int) string {
		return name + "! " + strconv.Itoa(arity) + " Int 3 Slide " + strconv.Itoa(arity+1) + " Unwind"
	}
	return []api.Object{
		whole(),
		module("m", []api.Import{{Name: "dep0", Arity: 1}}, "main! 0 Glob 1 Eval Case 7:8 2:3 Split 1 Glob 0 Ap Update Unwind Fail", "list 0 Int 4 Pack 513 Update Unwind"),
		module("n", nil, dep("dep", 20), dep("dep#", 0), dep("dep0", 1)),
	}
}

func TestLinkWritesIntoNothing(t *testing.T) {
	bad := together()
	bad[2].Globals[2].Arity = 2
	for _, l := range [][]api.Object{together(), bad, together()[:2], {one(0)}, {whole(), whole()}, together()[2:]} {
		in, want := roomy(l, whole()), roomy(l, whole())
		for k := range l {
			in[k], want[k] = roomyObject(l[k]), roomyObject(l[k])
		}
		Link(in, "main")
		in, want = in[:cap(in)], want[:cap(want)]
		for k := range in {
			if !reflect.DeepEqual(spread(in[k]), spread(want[k])) {
				t.Errorf("P2: Link wrote into object %d of %+v", k, l)
			}
		}
	}
}

// TestLinkKeepsNothing: what is written into the objects behind Link is not seen in the image.
func TestLinkKeepsNothing(t *testing.T) {
	in := roomy(together(), api.Object{})
	for k := range in {
		in[k] = roomyObject(in[k])
	}
	i, e, at := Link(in, "main")
	if e != api.OK {
		t.Fatalf("P8: %d, %d", e, at)
	}
	want := i.Run(1000, 1000)
	if want.Kind != api.OfValue || want.Text != "3" {
		t.Fatalf("P9: %+v", want)
	}
	for _, o := range in {
		fill(o)
	}
	clear(in[:cap(in)])
	if got := i.Run(1000, 1000); got != want {
		t.Errorf("P2: the image keeps what was handed in: %+v, want %+v", got, want)
	}
}

// fill writes marks into the whole room of every list of an object, the innermost first.
func fill(o api.Object) {
	for _, g := range o.Globals {
		for _, i := range g.Code {
			fillList(i.Alts, markAlt)
		}
		fillList(g.Code, markIns)
	}
	fillList(o.Imports, markImport)
	fillList(o.Globals, markGlobal)
}

func fillList[T any](l []T, mark T) {
	l = l[:cap(l)]
	for k := range l {
		l[k] = mark
	}
}

// twoCases is an object whose lists stand one behind the other in its file, none of them the last.
func twoCases() api.Object {
	return api.Object{
		Name:    "m",
		Imports: []api.Import{{Name: "x"}, {Name: "y", Arity: 2}, {Name: "z"}},
		Globals: []api.Global{
			{Name: "a", Code: []api.Ins{fork(1, 1, 1), fork(2, 2, 2), fail}},
			{Name: "b", Code: []api.Ins{fork(1, 1, 1, 1, 1), fail}},
			{Name: "c", Code: []api.Ins{fail, fail, fail, fail, fail}},
		},
	}
}

// manyLists is a text whose object has imports, several globals and several Alts in each.
const manyLists = "(module m (import x 0) (import y 2) (import z 0) (def a (p) (p (case p (0 () x) (1 () y) (2 (k) (+ k 1))) (case z (3 () x) (1 () y)))) (def b () (case x (0 () (case y (0 () 1) (1 () 2))) (7 () (a 1)))))"

// makers give one and the same object at each call.
func makers(t *testing.T) map[string]func() api.Object {
	s, _ := Encode(twoCases())
	return map[string]func() api.Object{
		"Decode": func() api.Object {
			o, e, at := Decode(s)
			if e != api.OK {
				t.Fatalf("P5: %d, %+v", e, at)
			}
			return o
		},
		"Compile": func() api.Object {
			o, e, at := Compile(manyLists)
			if e != api.OK {
				t.Fatalf("P7: %d, %d", e, at)
			}
			return o
		},
	}
}

func TestWhatComesOutIsTheCallers(t *testing.T) {
	for what, make := range makers(t) {
		first, second := make(), make()
		want, e := Encode(second)
		if e != api.OK {
			t.Fatalf("P4: %d", e)
		}
		fill(first)
		if got, e := Encode(second); got != want || e != api.OK {
			t.Errorf("P2: two answers of %s share memory", what)
		}
		if got, e := Encode(make()); got != want || e != api.OK {
			t.Errorf("P2: an answer of %s that was written into changes a later one", what)
		}
	}
	if got := makers(t)["Decode"](); !reflect.DeepEqual(got, twoCases()) {
		t.Errorf("P5: %+v", got)
	}
}

// TestNoTwoListsShare: what is written into one list of an answer, and into its spare room, is seen in no other.
func TestNoTwoListsShare(t *testing.T) {
	for what, make := range makers(t) {
		lists := 0
		each := func(write func(o api.Object) (clean func(o api.Object))) {
			got, want := make(), make()
			clean := write(got)
			clean(got)
			clean(want)
			if !reflect.DeepEqual(got, want) {
				t.Errorf("P2: list %d of %s shares memory with another one", lists, what)
			}
			lists++
		}
		each(func(o api.Object) func(api.Object) {
			fillList(o.Imports, markImport)
			return func(o api.Object) { clear(o.Imports) }
		})
		for k, g := range make().Globals {
			for i := range g.Code {
				each(func(o api.Object) func(api.Object) {
					fillList(o.Globals[k].Code[i].Alts, markAlt)
					return func(o api.Object) { clear(o.Globals[k].Code[i].Alts) }
				})
			}
			each(func(o api.Object) func(api.Object) {
				fillList(o.Globals[k].Code, markIns)
				return func(o api.Object) { clear(o.Globals[k].Code) }
			})
		}
		each(func(o api.Object) func(api.Object) {
			fillList(o.Globals, markGlobal)
			return func(o api.Object) { clear(o.Globals) }
		})
	}
}

// within: whether the text's memory is a part of the other's.
func within(part, whole string) bool {
	at, from := uintptr(unsafe.Pointer(unsafe.StringData(part))), uintptr(unsafe.Pointer(unsafe.StringData(whole)))
	return from <= at && at < from+uintptr(len(whole))
}

// TestNamesAreNew: an answer keeps nothing of the text or file that it was made of.
func TestNamesAreNew(t *testing.T) {
	text := strings.Clone(rich)
	fromText, _, _ := Compile(text)
	file, _ := Encode(whole())
	fromFile, _, _ := Decode(file)
	for _, o := range []api.Object{fromText, fromFile} {
		all := []string{o.Name}
		for _, i := range o.Imports {
			all = append(all, i.Name)
		}
		for _, g := range o.Globals {
			all = append(all, g.Name)
		}
		if len(all) < 4 {
			t.Fatalf("P1: %+v", o)
		}
		for _, n := range all {
			if within(n, text) || within(n, file) {
				t.Errorf("P2: %q lies in what was handed in", n)
			}
		}
	}
}
