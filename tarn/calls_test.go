package tarn

import (
	"math"
	"math/rand"
	"reflect"
	"strings"
	"testing"

	"tarn/api"
)

// TestCallsAtOddArguments: every call ends, and none panics; with an error there is nothing else.
func TestCallsAtOddArguments(t *testing.T) {
	for _, s := range []string{"", "\x00\x00\x00", "TARN", "(module m", strings.Repeat("(", 3000), strings.Repeat("\xff", 99999), strings.Repeat("\x80", 1<<20)} {
		for _, file := range []string{s, seal(s), seal("TARN" + s), seal("TARN\x01m" + s), seal("TARN\x01m\x00" + s), seal("TARN\x01m\x00\x01\x01a\x00\x00" + s)} {
			if o, e, _ := Decode(file); e == api.OK || !reflect.DeepEqual(o, api.Object{}) {
				t.Errorf("P1: Decode of %.30q: %+v, %d", file, o, e)
			}
		}
		Check(s)
		Compile(s)
		if i, e, at := Link(nil, s); i != nil || e != api.ErrEntry || at != 0 {
			t.Errorf("P1: Link of nothing, entry %.30q: %v, %d, %d", s, i, e, at)
		}
	}
}

// anyNumber is one of the numbers at which something may break.
func anyNumber(r *rand.Rand) int {
	l := []int{0, 0, 0, 0, 1, 1, 2, 3, 20, 21, 255, 256, 257, 1000, 1001, 65535, 65536, -1, -2, 1 << 31, 1 << 32, -1 << 32, math.MinInt, math.MaxInt, math.MaxInt - 1}
	return l[r.Intn(len(l))]
}

func anyObject(r *rand.Rand) api.Object {
	names := []string{"a", "b", "c", "d", "e", "a#", "", "B", strings.Repeat("a", 17)}
	o := api.Object{Name: names[r.Intn(5+r.Intn(5))]}
	for k := range r.Intn(2) {
		o.Imports = append(o.Imports, api.Import{Name: names[k], Arity: max(0, min(20, anyNumber(r)))})
	}
	for k := range r.Intn(3) {
		g := api.Global{Name: names[2+k], Arity: r.Intn(3)}
		n := r.Intn(6)
		for range n {
			i := anyIns(r, n)
			if r.Intn(8) == 0 {
				i.A = anyNumber(r)
			}
			if r.Intn(40) == 0 {
				i.Op = anyNumber(r)
			}
			if len(i.Alts) > 0 && r.Intn(8) == 0 {
				i.Alts[0] = api.Alt{Tag: anyNumber(r), To: anyNumber(r)}
			}
			g.Code = append(g.Code, i)
		}
		o.Globals = append(o.Globals, g)
	}
	return o
}

// TestCallsAgree: of objects of every kind, what Sound, Encode and Decode tell goes together.
func TestCallsAgree(t *testing.T) {
	r := rand.New(rand.NewSource(1))
	seen := map[api.Errno]int{}
	for range 60000 {
		o := anyObject(r)
		e, at := Sound(o)
		seen[e]++
		s, bad := Encode(o)
		if (e == api.ErrValue) != (bad == api.ErrValue) || (bad == api.OK) != (s != "") {
			t.Fatalf("P3: %+v: Sound %d, Encode %d, %q", o, e, bad, s)
		}
		if e == api.OK && at != (api.Place{}) || e == api.ErrValue && at != (api.Place{}) {
			t.Fatalf("P1: %+v: %d at %+v", o, e, at)
		}
		if bad != api.OK {
			continue
		}
		got, no, place := Decode(s)
		if no != e || place != at {
			t.Fatalf("P5: %+v: Sound %d, %+v, Decode %d, %+v", o, e, at, no, place)
		}
		if no == api.OK && !reflect.DeepEqual(got, o) || no != api.OK && !reflect.DeepEqual(got, api.Object{}) {
			t.Fatalf("P5: %+v comes back as %+v, %d", o, got, no)
		}
	}
	for _, e := range []api.Errno{api.OK, api.ErrValue, api.ErrIndex, api.ErrJump, api.ErrDepth} {
		if seen[e] < 100 {
			t.Errorf("%d of the objects have %d: these say too little", seen[e], e)
		}
	}
}
