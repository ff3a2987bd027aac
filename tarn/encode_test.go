package tarn

import (
	"math"
	"strings"
	"testing"

	"tarn/api"
)

func TestEncodeExample(t *testing.T) {
	s, e := Encode(one(0, ins(api.Int, 7), ins(api.Update, 0), ins(api.Unwind, 0)))
	want := seal("TARN\x01m\x00\x01\x04main\x00\x01\x03\x00\x0e\x05\x00\x13")
	if s != want || e != api.OK {
		t.Errorf("P4: example 3: %q, %d, want %q", s, e, want)
	}
}

func TestEncodeWhole(t *testing.T) {
	if s, e := Encode(whole()); s != seal(wholeBody()) || e != api.OK {
		t.Errorf("P4: %q, %d, want %q", s, e, seal(wholeBody()))
	}
	if s, e := Encode(api.Object{Name: "m"}); s != seal("TARN\x01m\x00\x00") || e != api.OK {
		t.Errorf("P4: an empty object: %q, %d", s, e)
	}
	if s, e := Encode(api.Object{Name: "m", Globals: []api.Global{{Name: "m"}}}); s != seal("TARN\x01m\x00\x01\x01m\x00\x00\x00") || e != api.OK {
		t.Errorf("P4: a global without code and with the module's name: %q, %d", s, e)
	}
}

// TestEncodeNumbers: every number in turn as the A of an instruction, or as a place of an Alt.
func TestEncodeNumbers(t *testing.T) {
	for a, x := range map[int]uint64{0: 0, -1: 1, 1: 2, 63: 126, -64: 127, 64: 128, -65: 129, 8191: 16382, 8192: 16384, math.MaxInt64: math.MaxUint64 - 1, math.MinInt64: math.MaxUint64} {
		if s, e := Encode(one(0, ins(api.Int, a))); e != api.OK || s != seal("TARN\x01m\x00\x01\x04main\x00\x01\x01\x00"+number(x)) {
			t.Errorf("P4: Int %d: %q, %d", a, s, e)
		}
	}
	for _, x := range []int{0, 127, 128, 16383, 16384, 65535} {
		if s, e := Encode(one(0, ins(api.Glob, x), fork(x))); e != api.OK || s != seal("TARN\x01m\x00\x01\x04main\x00\x01\x02\x01"+number(uint64(x))+"\x11\x01\x00"+number(uint64(x))) {
			t.Errorf("P4: Glob %d: %q, %d", x, s, e)
		}
	}
}

// refused looks that Encode and Sound both tell ErrValue, and nothing else.
func refused(t *testing.T, what string, o api.Object) {
	t.Helper()
	if s, e := Encode(o); s != "" || e != api.ErrValue {
		t.Errorf("P4: %q: Encode = %d bytes, %d, want ErrValue", what, len(s), e)
	}
	if e, at := Sound(o); e != api.ErrValue || at != (api.Place{}) {
		t.Errorf("P3: %q: Sound = %d, %+v, want ErrValue", what, e, at)
	}
}

func taken(t *testing.T, what string, o api.Object) {
	t.Helper()
	if s, e := Encode(o); s == "" || e != api.OK {
		t.Errorf("P4: %q: Encode = %d bytes, %d, want a file", what, len(s), e)
	}
}

func TestEncodeNames(t *testing.T) {
	places := map[string]func(name string) api.Object{
		"a module": func(n string) api.Object { return api.Object{Name: n} },
		"an import": func(n string) api.Object {
			return api.Object{Name: "m", Imports: []api.Import{{Name: n}}}
		},
		"a global": func(n string) api.Object {
			return api.Object{Name: "m", Globals: []api.Global{{Name: n}}}
		},
	}
	for where, with := range places {
		for _, n := range []string{"a", "z9#", strings.Repeat("a", 16)} {
			taken(t, where+" "+n, with(n))
		}
		for _, n := range []string{"", "1", "#", "A", "aZ", "a b", "a.", "\x00", "é", strings.Repeat("a", 17), strings.Repeat("a", 1000)} {
			refused(t, where+" "+n, with(n))
		}
	}
}

func TestEncodeOrder(t *testing.T) {
	for _, c := range []struct {
		imports, globals string
		good             bool
	}{
		{"a b c", "d e f", true}, {"d e f", "a b c", true}, {"b d", "a c e", true}, {"a a# a0 aa", "", true}, {"", "a a# a0 aa", true},
		{"b a", "", false}, {"a a", "", false}, {"a c b", "", false}, {"aa a", "", false}, {"a0 a#", "", false},
		{"", "b a", false}, {"", "a a", false}, {"", "a c b", false}, {"", "aa a0", false},
		{"a", "a", false}, {"a b", "b", false}, {"b", "a b", false}, {"b d f", "a c f", false}, {"b d f", "a d g", false},
	} {
		o := api.Object{Name: "m"}
		for _, n := range strings.Fields(c.imports) {
			o.Imports = append(o.Imports, api.Import{Name: n})
		}
		for _, n := range strings.Fields(c.globals) {
			o.Globals = append(o.Globals, api.Global{Name: n})
		}
		what := "imports " + c.imports + ", globals " + c.globals
		if c.good {
			taken(t, what, o)
		} else {
			refused(t, what, o)
		}
	}
}

func TestEncodeArities(t *testing.T) {
	for _, n := range []int{0, 1, 20, -1, 21, math.MinInt, math.MaxInt} {
		try := taken
		if n < 0 || n > 20 {
			try = refused
		}
		try(t, "an import's arity", api.Object{Name: "m", Imports: []api.Import{{Name: "a", Arity: n}}})
		try(t, "a global's arity", one(n, ins(api.Fail, 0)))
	}
}

// TestEncodeInstructions: of each Op the least and the most A, and one past each.
func TestEncodeInstructions(t *testing.T) {
	for op, b := range map[int][2]int{
		api.Glob: {0, 65535}, api.Push: {0, 1000}, api.Ap: {0, 0}, api.Slide: {0, 1000}, api.Update: {0, 1000}, api.Pop: {0, 1000}, api.Alloc: {1, 1000}, api.Eval: {0, 0},
		api.Add: {0, 0}, api.Sub: {0, 0}, api.Mul: {0, 0}, api.Div: {0, 0}, api.Same: {0, 0}, api.Less: {0, 0}, api.Pack: {0, 65535}, api.Split: {0, 255}, api.Jump: {0, 65535}, api.Unwind: {0, 0}, api.Fail: {0, 0},
	} {
		taken(t, "the least A", one(0, ins(op, b[0])))
		taken(t, "the most A", one(0, ins(op, b[1])))
		for _, a := range []int{b[0] - 1, b[1] + 1, math.MinInt, math.MaxInt} {
			refused(t, "an A out of bounds", one(0, ins(op, a)))
		}
		taken(t, "Alts that are empty but not nil", one(0, api.Ins{Op: op, A: b[0], Alts: []api.Alt{}}))
		refused(t, "Alts that are not needed", one(0, api.Ins{Op: op, A: b[0], Alts: []api.Alt{{}}}))
	}
	taken(t, "Int, the least", one(0, ins(api.Int, math.MinInt64)))
	taken(t, "Int, the most", one(0, ins(api.Int, math.MaxInt64)))
	refused(t, "Alts of Int", one(0, api.Ins{Op: api.Int, Alts: []api.Alt{{}}}))
	refused(t, "A of Case", one(0, api.Ins{Op: api.Case, A: 1, Alts: []api.Alt{{}}}))
	for _, op := range []int{-1, 21, 255, 256, math.MinInt, math.MaxInt} {
		refused(t, "no Op", one(0, ins(op, 0)))
	}
}

func TestEncodeAlts(t *testing.T) {
	alts := func(l ...api.Alt) api.Object { return one(0, api.Ins{Op: api.Case, Alts: l}) }
	all := make([]api.Alt, 256)
	for k := range all {
		all[k] = api.Alt{Tag: 255 - k, To: 65535}
	}
	taken(t, "256 Alts", alts(all...))
	refused(t, "257 Alts", alts(append(all[:256:256], api.Alt{Tag: 7})...))
	refused(t, "no Alts", alts())
	refused(t, "two of one Tag", alts(api.Alt{Tag: 3}, api.Alt{Tag: 4}, api.Alt{Tag: 3, To: 1}))
	for _, x := range []int{-1, 256, 1 << 32, math.MinInt, math.MaxInt} {
		refused(t, "no Tag", alts(api.Alt{}, api.Alt{Tag: x}))
	}
	for _, x := range []int{-1, 65536, 1 << 32, math.MinInt, math.MaxInt} {
		refused(t, "no To", alts(api.Alt{}, api.Alt{Tag: 1, To: x}))
	}
	taken(t, "one Tag in two Cases", one(0, fork(0), fork(0)))
}

func TestEncodeManyInstructions(t *testing.T) {
	taken(t, "65535 instructions", one(0, times(65535, ins(api.Eval, 0))...))
	refused(t, "65536 instructions", one(0, times(65536, ins(api.Eval, 0))...))
}

// long is an object whose file has so many bytes (100 to 150000): nearly one for each instruction.
func long(size int) api.Object {
	o := api.Object{Name: "m", Globals: []api.Global{{Name: "a"}, {Name: "b"}, {Name: "c"}}}
	// TARN, 1 m, 0, 3, of each global 1 and a letter, arity, export and how many (3 bytes), and the sum
	left := size - (4 + 2 + 2 + 3*7 + 4)
	for k := range o.Globals {
		n := left / (3 - k)
		o.Globals[k].Code = times(n, ins(api.Eval, 0))
		o.Globals[k].Code[n-1] = ins(api.Fail, 0)
		left -= n
	}
	return o
}

func TestEncodeLong(t *testing.T) {
	if s, e := Encode(long(api.MaxFile)); len(s) != api.MaxFile || e != api.OK {
		t.Errorf("P4: a file of MaxFile bytes: %d bytes, %d", len(s), e)
	}
	for _, n := range []int{api.MaxFile + 1, api.MaxFile + 4, api.MaxFile + 5, 150000} {
		o := long(n)
		if s, e := Encode(o); s != "" || e != api.ErrLong {
			t.Errorf("P4: a file of %d bytes: %d bytes, %d", n, len(s), e)
		}
		if e, at := Sound(o); e != api.OK || at != (api.Place{}) {
			t.Errorf("P3: an object whose file would be too long may be sound: %d, %+v", e, at)
		}
		o.Globals[2].Code[0].A = 1
		refused(t, "a long file and a wrong value at its end", o)
	}
}
