package tarn

import (
	"fmt"
	"math/rand"
	"slices"
	"strings"
	"testing"

	"tarn/api"
)

// links looks what Link tells.
func links(t *testing.T, what string, l []api.Object, entry string, e api.Errno, at int) {
	t.Helper()
	i, got, place := Link(l, entry)
	if got != e || place != at || (i != nil) != (e == api.OK) {
		t.Errorf("P8: %s: Link = %v, %d, %d, want %d, %d", what, i != nil, got, place, e, at)
	}
}

func needs(names ...string) []api.Import {
	var l []api.Import
	for _, n := range names {
		l = append(l, api.Import{Name: n})
	}
	return l
}

// mainOf is the object with the entry, which needs these.
func mainOf(names ...string) api.Object { return module("m", needs(names...), "main! 0 Unwind") }

func TestLinkGood(t *testing.T) {
	for what, l := range map[string][]api.Object{
		"one object":            {mainOf()},
		"the entry in the last": {module("a", nil), module("b", nil, "x! 0 Fail"), mainOf()},
		"imports of one ahead":  {module("a", nil, "x! 0 Fail"), mainOf("x")},
		"imports of one behind": {mainOf("x"), module("a", nil, "x! 0 Fail")},
		"of each other":         {mainOf("x"), module("a", needs("main"), "x! 0 Fail")},
		"one name in several":   {mainOf("x"), module("m", needs("x"), "y! 0 Fail"), module("m", nil, "x! 0 Fail")},
		"hidden ones of a name": {module("a", nil, "x 0 Fail", "main 3 Fail"), module("b", nil, "x 2 Fail"), mainOf("x"), module("c", nil, "x! 0 Fail"), module("d", nil, "x 1 Fail")},
		"as many as may be":     {mainOf(), module("a", nil), module("a", nil), module("a", nil), module("a", nil), module("a", nil), module("a", nil), module("a", nil)},
		"every arity":           {module("a", nil, "x! 20 Fail"), module("m", []api.Import{{Name: "x", Arity: 20}}, "main! 0 Unwind")},
		"compiled ones":         {compiled(t, "(module m (import f 1) (def main () (f (f 2))))"), compiled(t, "(module m (def f (x) (* x (+ x 1))))")},
	} {
		links(t, what, l, "main", api.OK, 0)
	}
	links(t, "another entry", []api.Object{module("a", nil, "x! 0 Fail", "a0# 0 Fail", "a#! 0 Fail")}, "a#", api.OK, 0)
}

// TestLinkUnsound: every error of Sound is ErrValue, and of several objects the first is told.
func TestLinkUnsound(t *testing.T) {
	bad := []api.Object{
		{}, {Name: "1"}, {Name: "m", Imports: needs("b", "a")}, {Name: "m", Imports: []api.Import{{Name: "x", Arity: 21}}},
		one(21, fail), one(0), one(0, seven), one(0, seven, unwind), one(0, ins(api.Glob, 1), fail), one(0, ins(api.Jump, 1)), one(0, ins(21, 0)), one(0, ins(api.Fail, 1)), one(0, ins(api.Case, 0)),
	}
	other := module("a", nil, "x! 0 Fail")
	for k, o := range bad {
		what := fmt.Sprint("unsound object ", k)
		links(t, what, []api.Object{o}, "main", api.ErrValue, 0)
		links(t, what, []api.Object{mainOf(), o, other}, "main", api.ErrValue, 1)
		links(t, what, []api.Object{mainOf(), other, o, o}, "main", api.ErrValue, 2)
	}
	// An object may be too long for a file, and sound.
	links(t, "a long one", []api.Object{long(api.MaxFile + 1)}, "none", api.ErrEntry, 0)
}

func TestLinkTwice(t *testing.T) {
	x, hidden := module("a", nil, "x! 0 Fail"), module("a", nil, "x 0 Fail")
	links(t, "in the next", []api.Object{mainOf(), mainOf()}, "main", api.ErrTwice, 1)
	links(t, "with another arity", []api.Object{mainOf(), module("b", nil, "main! 1 Fail")}, "main", api.ErrTwice, 1)
	links(t, "far behind", []api.Object{x, mainOf(), hidden, module("b", nil, "a! 0 Fail", "x! 0 Fail", "z! 0 Fail"), x, mainOf()}, "main", api.ErrTwice, 3)
	links(t, "which nobody needs", []api.Object{mainOf(), x, hidden, x}, "main", api.ErrTwice, 3)
	links(t, "but hidden", []api.Object{hidden, mainOf(), x, hidden}, "main", api.OK, 0)
}

func TestLinkMissing(t *testing.T) {
	x := module("a", nil, "x! 0 Fail")
	links(t, "in none", []api.Object{mainOf("x")}, "main", api.ErrMissing, 0)
	links(t, "in none, used or not", []api.Object{mainOf(), x, module("b", needs("x", "y"))}, "main", api.ErrMissing, 2)
	links(t, "only hidden", []api.Object{mainOf("x"), module("a", nil, "x 0 Fail")}, "main", api.ErrMissing, 0)
	links(t, "only imported", []api.Object{x, mainOf("y"), module("b", needs("y"))}, "main", api.ErrMissing, 1)
	links(t, "the first of two", []api.Object{mainOf("x"), module("b", needs("w")), x, module("c", needs("v"))}, "main", api.ErrMissing, 1)
}

func TestLinkArity(t *testing.T) {
	x := module("a", nil, "x! 1 Fail", "y! 0 Fail")
	with := func(n int) api.Object { return module("b", []api.Import{{Name: "x", Arity: n}, {Name: "y"}}) }
	links(t, "fewer", []api.Object{mainOf(), x, with(1), with(0)}, "main", api.ErrArity, 3)
	links(t, "more", []api.Object{mainOf("x"), x, with(2)}, "main", api.ErrArity, 0)
	links(t, "ahead of the one that has it", []api.Object{mainOf(), with(20), x}, "main", api.ErrArity, 1)
	links(t, "the same", []api.Object{mainOf(), with(1), x}, "main", api.OK, 0)
	// A hidden one of this name does not count.
	links(t, "hidden", []api.Object{mainOf("x"), module("h", nil, "x 0 Fail"), x}, "main", api.ErrArity, 0)
}

func TestLinkEntry(t *testing.T) {
	links(t, "no objects", nil, "main", api.ErrEntry, 0)
	links(t, "no objects, no entry", []api.Object{}, "", api.ErrEntry, 0)
	for _, entry := range []string{"", "x", "mai", "main ", "Main", "main\x00", "m", "f", "hid", strings.Repeat("main", 1<<18), "\xff"} {
		links(t, fmt.Sprintf("entry %.20q", entry), []api.Object{mainOf(), module("a", nil, "f! 1 Fail", "hid 0 Fail")}, entry, api.ErrEntry, 0)
	}
	links(t, "an arity", []api.Object{module("m", nil, "main! 1 Fail")}, "main", api.ErrEntry, 0)
	links(t, "imported", []api.Object{module("m", needs("main")), mainOf()}, "main", api.OK, 0)
}

// sized is an object with a global of this name that has n instructions, at most 65535.
func sized(name string, n int) api.Object {
	return api.Object{Name: "m", Globals: []api.Global{{Name: name, Export: true, Code: times(n, unwind)}}}
}

func TestLinkBig(t *testing.T) {
	nine := []api.Object{mainOf(), {}, {}, {}, {}, {}, {}, {}, {}}
	links(t, "nine objects", nine, "main", api.ErrBig, 0)
	links(t, "very many objects", make([]api.Object, 1<<16), "main", api.ErrBig, 0)
	links(t, "eight objects", nine[:8], "main", api.ErrValue, 1)
	full := []api.Object{sized("main", 65535), sized("a", 65535), sized("b", 65535), sized("c", 3395)}
	links(t, "MaxImage instructions", full, "main", api.OK, 0)
	links(t, "one more, in another", append(full, sized("d", 1)), "main", api.ErrBig, 0)
	full[3].Globals[0].Code = times(3396, unwind)
	links(t, "one more", full, "main", api.ErrBig, 0)
	links(t, "one more, without an entry", full, "e", api.ErrEntry, 0)
	many := api.Object{Name: "m"}
	for k := range api.MaxImage + 1 {
		many.Globals = append(many.Globals, api.Global{Name: fmt.Sprintf("g%07d", k), Export: true, Code: []api.Ins{fail}})
	}
	links(t, "one more, in globals of one each", []api.Object{many}, "g0000000", api.ErrBig, 0)
	many.Globals = many.Globals[:api.MaxImage]
	links(t, "globals of one each", []api.Object{many}, "g0000000", api.OK, 0)
	if i, e, _ := Link([]api.Object{many}, "g0199999"); e != api.OK || i.Run(9, 9) != (api.Outcome{Kind: api.OfMatch, Steps: 2}) {
		t.Errorf("P9: the last of many globals: %d", e)
	}
}

// TestLinkOrder: of two errors, the one that is named first is told, whichever object has it.
func TestLinkOrder(t *testing.T) {
	unsound, twice := one(0), module("t", nil, "main! 0 Fail")
	missing, arity := module("b", needs("none")), module("c", []api.Import{{Name: "f", Arity: 2}})
	f := module("f", nil, "f! 1 Fail")
	huge := []api.Object{sized("x", 65535), sized("y", 65535), sized("z", 65535), sized("w", 65535)}
	for _, c := range []struct {
		what string
		l    []api.Object
		e    api.Errno
		at   int
	}{
		{"ErrValue ahead of ErrTwice", []api.Object{mainOf(), twice, unsound}, api.ErrValue, 2},
		{"ErrValue ahead of ErrMissing", []api.Object{missing, unsound}, api.ErrValue, 1},
		{"ErrValue ahead of ErrArity", []api.Object{arity, f, unsound}, api.ErrValue, 2},
		{"ErrValue ahead of ErrEntry", []api.Object{f, unsound}, api.ErrValue, 1},
		{"ErrValue ahead of ErrBig", append(append([]api.Object{mainOf()}, huge...), unsound), api.ErrValue, 5},
		{"ErrTwice ahead of ErrMissing", []api.Object{missing, mainOf(), twice}, api.ErrTwice, 2},
		{"ErrTwice ahead of ErrArity", []api.Object{arity, f, mainOf(), twice}, api.ErrTwice, 3},
		{"ErrTwice ahead of ErrEntry", []api.Object{f, f}, api.ErrTwice, 1},
		{"ErrTwice ahead of ErrBig", append(append([]api.Object{mainOf()}, huge...), twice), api.ErrTwice, 5},
		{"ErrMissing ahead of ErrArity", []api.Object{arity, f, mainOf(), missing}, api.ErrMissing, 3},
		{"ErrMissing ahead of ErrEntry", []api.Object{f, missing}, api.ErrMissing, 1},
		{"ErrMissing ahead of ErrBig", append(append([]api.Object{mainOf()}, huge...), missing), api.ErrMissing, 5},
		{"ErrArity ahead of ErrEntry", []api.Object{f, arity}, api.ErrArity, 1},
		{"ErrArity ahead of ErrBig", append(append([]api.Object{mainOf(), f}, huge...), arity), api.ErrArity, 6},
		{"ErrEntry ahead of ErrBig", huge, api.ErrEntry, 0},
	} {
		links(t, c.what, c.l, "main", c.e, c.at)
	}
	for _, o := range []api.Object{unsound, twice, missing, arity} {
		links(t, "more than MaxModules ahead of all", append(make([]api.Object, 8), o), "none", api.ErrBig, 0)
	}
}

// plainLink is what Link tells by the words of the document: of each error, the first object that has it.
func plainLink(l []api.Object, entry string) (api.Errno, int) {
	exported := func(ahead int, name string) (arity int, is bool) {
		for _, o := range l[:ahead] {
			for _, g := range o.Globals {
				if g.Export && g.Name == name {
					return g.Arity, true
				}
			}
		}
		return 0, false
	}
	has := map[api.Errno]func(k int) bool{
		api.ErrValue: func(k int) bool { e, _ := Sound(l[k]); return e != api.OK },
		api.ErrTwice: func(k int) bool {
			return slices.ContainsFunc(l[k].Globals, func(g api.Global) bool { _, is := exported(k, g.Name); return is && g.Export })
		},
		api.ErrMissing: func(k int) bool {
			return slices.ContainsFunc(l[k].Imports, func(i api.Import) bool { _, is := exported(len(l), i.Name); return !is })
		},
		api.ErrArity: func(k int) bool {
			return slices.ContainsFunc(l[k].Imports, func(i api.Import) bool { n, _ := exported(len(l), i.Name); return n != i.Arity })
		},
	}
	if len(l) > api.MaxModules {
		return api.ErrBig, 0
	}
	for _, e := range []api.Errno{api.ErrValue, api.ErrTwice, api.ErrMissing, api.ErrArity} {
		for k := range l {
			if has[e](k) {
				return e, k
			}
		}
	}
	if n, is := exported(len(l), entry); !is || n != 0 {
		return api.ErrEntry, 0
	}
	return api.OK, 0
}

func TestLinkAsTheDocumentSays(t *testing.T) {
	r := rand.New(rand.NewSource(1))
	seen := map[api.Errno]int{}
	for range 40000 {
		var l []api.Object
		for range r.Intn(api.MaxModules + 2) {
			o := api.Object{Name: "m"}
			for k, n := range []string{"a", "b", "c", "d", "e", "f", "g", "h", "main"} {
				if arity := k % 2; r.Intn(12) == 0 {
					o.Imports = append(o.Imports, api.Import{Name: n, Arity: arity + r.Intn(5)/4})
				} else if r.Intn(9) == 0 || len(l) == k && r.Intn(5) > 0 {
					o.Globals = append(o.Globals, api.Global{Name: n, Arity: arity, Export: r.Intn(8) > 0, Code: []api.Ins{ins(api.Fail, r.Intn(150)/149)}})
				}
			}
			l = append(l, o)
		}
		e, at := plainLink(l, "a")
		seen[e]++
		links(t, fmt.Sprintf("%+v", l), l, "a", e, at)
	}
	for _, e := range []api.Errno{api.OK, api.ErrBig, api.ErrValue, api.ErrTwice, api.ErrMissing, api.ErrArity, api.ErrEntry} {
		if seen[e] < 100 {
			t.Errorf("%d of the lists have %d: these say too little", seen[e], e)
		}
	}
}

// TestLinkNumbers: each Glob is the global that its object means, whichever
// objects stand ahead of it, and whatever has the same name.
func TestLinkNumbers(t *testing.T) {
	value := func(n string) string { return " 0 Int " + n + " Update Unwind" }
	// The numbers in a: 0 d, 1 q, 2 e, 3 main.
	a := module("a", needs("d", "q"), "main! 0 Glob 1 Glob 0 Glob 2 Pack 2307 Update Unwind", "e"+value("1"))
	b := module("b", needs("p"), "d!"+value("2"), "e"+value("3"), "f"+value("4"))
	c := module("c", nil, "a"+value("5"), "e"+value("6"), "p!"+value("7"), "q! 0 Glob 0 Glob 1 Glob 2 Pack 3 Update Unwind")
	for _, l := range [][]api.Object{{a, b, c}, {a, c, b}, {b, a, c}, {b, c, a}, {c, a, b}, {c, b, a}} {
		i, e, _ := Link(l, "main")
		if e != api.OK {
			t.Fatalf("P8: %d", e)
		}
		if got := i.Run(1000, 1000); got.Kind != api.OfValue || got.Text != "(9 1 2 (0 7 6 5))" {
			t.Errorf("P9: %+v", got)
		}
	}
}
