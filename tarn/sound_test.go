package tarn

import (
	"math/rand"
	"testing"

	"tarn/api"
)

// told looks what Sound tells of the object, and Decode of its file.
func told(t *testing.T, what string, o api.Object, e api.Errno, want api.Place) {
	t.Helper()
	if got, at := Sound(o); got != e || at != want {
		t.Errorf("P3: %s: Sound = %d, %+v, want %d, %+v", what, got, at, e, want)
	}
	s, _ := Encode(o)
	if _, got, at := Decode(s); got != e || at != want {
		t.Errorf("P5: %s: Decode = %d, %+v, want %d, %+v", what, got, at, e, want)
	}
}

var (
	seven  = ins(api.Int, 7)
	unwind = ins(api.Unwind, 0)
	fail   = ins(api.Fail, 0)
)

func TestSoundExamples(t *testing.T) {
	told(t, "example 3", one(0, seven, ins(api.Update, 0), unwind), api.OK, api.Place{})
	told(t, "example 4", one(0, seven, unwind), api.ErrDepth, api.Place{At: 1})
	told(t, "example 4, Push", one(0, ins(api.Push, 0), unwind), api.ErrDepth, api.Place{At: 1})
	told(t, "every Op", whole(), api.OK, api.Place{})
	told(t, "nothing", api.Object{Name: "m"}, api.OK, api.Place{})
}

func TestSoundIndex(t *testing.T) {
	with := func(a int) api.Object {
		o := one(0, ins(api.Glob, 0), ins(api.Glob, a), fail)
		o.Imports = []api.Import{{Name: "a"}, {Name: "b"}}
		return o
	}
	told(t, "the last global", with(2), api.OK, api.Place{})
	told(t, "one more", with(3), api.ErrIndex, api.Place{At: 1})
	told(t, "the most", with(65535), api.ErrIndex, api.Place{At: 1})
	told(t, "the first of two", one(0, ins(api.Glob, 1), ins(api.Glob, 2), fail), api.ErrIndex, api.Place{At: 0})
	told(t, "one that is not reached", one(0, fail, ins(api.Glob, 1), fail), api.ErrIndex, api.Place{At: 1})
	told(t, "ahead of a Jump and a depth that are wrong", one(0, ins(api.Ap, 0), ins(api.Jump, 9), ins(api.Glob, 1)), api.ErrIndex, api.Place{At: 2})
}

func TestSoundJump(t *testing.T) {
	at := func(n int) api.Place { return api.Place{At: n} }
	told(t, "no instructions", one(0), api.ErrJump, at(0))
	told(t, "Jump to the end", one(0, fail, ins(api.Jump, 2)), api.ErrJump, at(1))
	told(t, "Jump to the last one", one(0, fail, ins(api.Jump, 1)), api.OK, at(0))
	told(t, "the most", one(0, ins(api.Jump, 65535)), api.ErrJump, at(0))
	told(t, "Case to the end", one(0, fail, fork(0, 1, 2)), api.ErrJump, at(1))
	told(t, "Case to the last one", one(0, fail, fork(0, 1)), api.OK, at(0))
	told(t, "the first of several", one(0, fail, fork(9), ins(api.Jump, 9), fail), api.ErrJump, at(1))
	told(t, "a Jump ahead of the last one", one(0, fail, ins(api.Jump, 9), seven), api.ErrJump, at(1))
	told(t, "ahead of a depth", one(0, ins(api.Ap, 0), fail, ins(api.Jump, 3)), api.ErrJump, at(2))
	for op := api.Int; op <= api.Fail; op++ {
		last := ins(op, 0)
		e, place := api.ErrJump, at(1)
		switch op {
		case api.Alloc:
			last.A = 1
		case api.Case:
			last = fork(0)
		}
		if op >= api.Case {
			e, place = api.OK, at(0)
		}
		told(t, "the last instruction", one(0, fail, last), e, place)
	}
}

func TestSoundTellsTheFirstGlobal(t *testing.T) {
	good, index, jump, depth := []api.Ins{fail}, []api.Ins{ins(api.Glob, 9), fail}, []api.Ins{fail, seven}, []api.Ins{seven, seven, unwind}
	for _, c := range []struct {
		a, b, c []api.Ins
		e       api.Errno
		at      api.Place
	}{
		{good, good, good, api.OK, api.Place{}},
		{depth, jump, index, api.ErrDepth, api.Place{Global: 0, At: 2}},
		{good, jump, index, api.ErrJump, api.Place{Global: 1, At: 1}},
		{good, good, index, api.ErrIndex, api.Place{Global: 2, At: 0}},
		{good, depth, nil, api.ErrDepth, api.Place{Global: 1, At: 2}},
		{good, good, nil, api.ErrJump, api.Place{Global: 2, At: 0}},
	} {
		o := api.Object{Name: "m", Imports: []api.Import{{Name: "x"}}, Globals: []api.Global{{Name: "a", Code: c.a}, {Name: "b", Code: c.b}, {Name: "c", Code: c.c}}}
		told(t, "three globals", o, c.e, c.at)
	}
}

// deep is code at whose end there are d cells, where there is 1 ahead of it.
func deep(d int) []api.Ins {
	if d == 0 {
		return []api.Ins{ins(api.Pop, 1)}
	}
	if d == 1 {
		return nil
	}
	return []api.Ins{ins(api.Alloc, d-1)}
}

// TestSoundDepths: of each instruction what it needs, and how many cells there are behind it.
func TestSoundDepths(t *testing.T) {
	for _, c := range []struct {
		i          api.Ins
		need, more int
	}{
		{ins(api.Int, 1<<63-1), 0, 1}, {ins(api.Int, -1<<63), 0, 1}, {ins(api.Glob, 0), 0, 1},
		{ins(api.Push, 0), 1, 1}, {ins(api.Push, 7), 8, 1}, {ins(api.Push, 998), 999, 1},
		{ins(api.Ap, 0), 2, -1}, {ins(api.Slide, 0), 1, 0}, {ins(api.Slide, 5), 6, -5}, {ins(api.Slide, 999), 1000, -999},
		{ins(api.Update, 0), 2, -1}, {ins(api.Update, 6), 8, -1}, {ins(api.Update, 998), 1000, -1},
		{ins(api.Pop, 0), 0, 0}, {ins(api.Pop, 3), 3, -3}, {ins(api.Pop, 1000), 1000, -1000},
		{ins(api.Alloc, 1), 0, 1}, {ins(api.Alloc, 1000), 0, 1000}, {ins(api.Eval, 0), 1, 0},
		{ins(api.Add, 0), 2, -1}, {ins(api.Sub, 0), 2, -1}, {ins(api.Mul, 0), 2, -1}, {ins(api.Div, 0), 2, -1}, {ins(api.Same, 0), 2, -1}, {ins(api.Less, 0), 2, -1},
		{ins(api.Pack, 0), 0, 1}, {ins(api.Pack, 255*256), 0, 1}, {ins(api.Pack, 3*256+1), 1, 0}, {ins(api.Pack, 255), 255, -254}, {ins(api.Pack, 65535), 255, -254},
		{ins(api.Split, 0), 1, -1}, {ins(api.Split, 1), 1, 0}, {ins(api.Split, 255), 1, 254},
	} {
		for _, d := range []int{c.need, c.need + 1, c.need + 5} {
			if d > api.MaxStack || d+c.more > api.MaxStack {
				continue
			}
			soundAt(t, c.i, d, d+c.more)
		}
		if c.need > 0 {
			ahead := deep(c.need - 1)
			told(t, "too few cells", one(0, code(ahead, []api.Ins{c.i, fail})...), api.ErrDepth, api.Place{At: len(ahead)})
		}
	}
}

// soundAt looks that the instruction fits with d cells, and that there are just left behind it.
func soundAt(t *testing.T, i api.Ins, d, left int) {
	t.Helper()
	ahead := append(deep(d), i)
	if left > 0 {
		told(t, "as many cells as are left", one(0, code(ahead, []api.Ins{ins(api.Pop, left-1), unwind})...), api.OK, api.Place{})
	}
	if left < api.MaxStack {
		told(t, "one cell more than is left", one(0, code(ahead, []api.Ins{ins(api.Pop, left+1), fail})...), api.ErrDepth, api.Place{At: len(ahead)})
		told(t, "all cells that are left", one(0, code(ahead, []api.Ins{ins(api.Pop, left), seven, unwind})...), api.OK, api.Place{})
	}
}

func TestSoundEnds(t *testing.T) {
	for d := range 4 {
		ahead := deep(d)
		told(t, "Fail takes any depth", one(0, append(ahead, fail)...), api.OK, api.Place{})
		told(t, "Jump takes any depth", one(0, append(ahead, ins(api.Jump, len(ahead)))...), api.OK, api.Place{})
		e, at := api.ErrDepth, api.Place{At: len(ahead)}
		if d == 1 {
			e, at = api.OK, api.Place{}
		}
		told(t, "Unwind takes just 1", one(0, append(deep(d), unwind)...), e, at)
		if d > 0 {
			e, at = api.OK, api.Place{}
		}
		told(t, "Case takes 1 or more", one(0, append(deep(d), fork(len(ahead)))...), e, at)
	}
}

func TestSoundArity(t *testing.T) {
	for _, n := range []int{0, 1, 19, 20} {
		told(t, "arity and 1", one(n, ins(api.Pop, n), unwind), api.OK, api.Place{})
		told(t, "not more", one(n, ins(api.Pop, n+2), fail), api.ErrDepth, api.Place{})
	}
}

func TestSoundMaxStack(t *testing.T) {
	told(t, "just MaxStack by Alloc", one(0, ins(api.Alloc, 999), fail), api.OK, api.Place{})
	told(t, "one more by Alloc", one(0, ins(api.Alloc, 1000), fail), api.ErrDepth, api.Place{})
	told(t, "just MaxStack by Int", one(0, append(times(999, seven), fail)...), api.OK, api.Place{})
	for _, i := range []api.Ins{seven, ins(api.Glob, 0), ins(api.Push, 998), ins(api.Alloc, 1), ins(api.Pack, 0), ins(api.Split, 2)} {
		told(t, "one more at MaxStack", one(0, ins(api.Alloc, 999), i, fail), api.ErrDepth, api.Place{At: 1})
		told(t, "just MaxStack", one(0, ins(api.Alloc, 998), i, fail), api.OK, api.Place{})
	}
	told(t, "the same at MaxStack", one(0, ins(api.Alloc, 999), ins(api.Split, 1), ins(api.Eval, 0), ins(api.Slide, 0), ins(api.Pop, 0), ins(api.Pack, 1), ins(api.Jump, 7), fail), api.OK, api.Place{})
	told(t, "far more than MaxStack", one(20, ins(api.Alloc, 979), ins(api.Alloc, 1000), fail), api.ErrDepth, api.Place{At: 1})
	told(t, "above MaxStack goes on nowhere", one(0, ins(api.Jump, 2), unwind, ins(api.Alloc, 1000), ins(api.Jump, 1)), api.ErrDepth, api.Place{At: 2})
}

func TestSoundReached(t *testing.T) {
	at := func(n int) api.Place { return api.Place{At: n} }
	told(t, "what is not reached has no depth", one(0, ins(api.Jump, 3), ins(api.Ap, 0), unwind, unwind), api.OK, at(0))
	told(t, "a loop with one d", one(1, ins(api.Eval, 0), fork(0, 2), ins(api.Slide, 1), unwind), api.OK, at(0))
	told(t, "a loop with more and more", one(0, seven, ins(api.Jump, 0)), api.ErrDepth, at(0))
	told(t, "two ways with one d", one(0, fork(1, 3), ins(api.Push, 0), ins(api.Jump, 4), seven, ins(api.Pop, 1), unwind), api.OK, at(0))
	told(t, "two ways with two d", one(0, fork(1, 3), ins(api.Push, 0), ins(api.Jump, 3), seven, ins(api.Pop, 1), unwind), api.ErrDepth, at(3))
	told(t, "an Alt further behind", one(0, fork(3, 1, 3), seven, ins(api.Jump, 3), fail), api.ErrDepth, at(3))
	told(t, "what does not fit goes on nowhere", one(0, ins(api.Jump, 2), unwind, ins(api.Ap, 0), ins(api.Jump, 1)), api.ErrDepth, at(2))
	told(t, "what has two d goes on with two", one(0, ins(api.Jump, 2), fail, seven, fork(2, 1)), api.ErrDepth, at(1))
	told(t, "what has two d goes on, whatever it needs", one(0, ins(api.Jump, 3), fail, fail, fork(4, 5), seven, ins(api.Slide, 900), ins(api.Jump, 1)), api.ErrDepth, at(1))
	told(t, "what has two d may find one that has one already", one(0, fork(1, 2), fail, fork(3, 1), seven, ins(api.Jump, 1)), api.ErrDepth, at(1))
	told(t, "Unwind with two d", one(0, fork(2, 1), seven, unwind), api.ErrDepth, at(2))
	told(t, "the least of several", one(0, fork(1, 4), ins(api.Jump, 3), fail, ins(api.Ap, 0), ins(api.Update, 9), fail), api.ErrDepth, at(3))
}

// TestSoundLong: code that makes many depths change again and again still ends.
func TestSoundLong(t *testing.T) {
	alts := make([]api.Alt, 256)
	for k := range alts {
		alts[k] = api.Alt{Tag: k, To: 65535 - 256 + k}
	}
	long := times(65534, api.Ins{Op: api.Case, Alts: alts})
	long[0] = seven
	long = append(long, ins(api.Jump, 0))
	o := one(0, long...)
	if e, at := Sound(o); e != api.ErrDepth || at != (api.Place{At: 0}) {
		t.Errorf("P3: many Cases: %d, %+v", e, at)
	}
}

// slowDepth is ErrDepth by the words of the document: round by round, all
// instructions, till no round finds more. A set of d, with two at most, stands for each.
func slowDepth(code []api.Ins, arity int) (int, bool) {
	const two = -1
	reached := make([]map[int]int, len(code))
	for k := range reached {
		reached[k] = map[int]int{}
	}
	reached[0][arity+1] = 1
	for more := true; more; {
		more = false
		for at, i := range code {
			for d := range reached[at] {
				next := two
				if len(reached[at]) == 1 && d != two {
					need, behind := slowNeed(i, d)
					if !need || behind > api.MaxStack {
						continue
					}
					next = behind
				}
				for _, to := range slowNext(i, at) {
					if _, is := reached[to][next]; !is {
						reached[to][next] = 1
						more = true
					}
				}
			}
		}
	}
	for at, i := range code {
		for d := range reached[at] {
			need, behind := slowNeed(i, d)
			if d == two || len(reached[at]) > 1 || !need || behind > api.MaxStack {
				return at, true
			}
		}
	}
	return 0, false
}

func slowNeed(i api.Ins, d int) (bool, int) {
	switch i.Op {
	case api.Int, api.Glob:
		return true, d + 1
	case api.Push:
		return d >= i.A+1, d + 1
	case api.Slide:
		return d >= i.A+1, d - i.A
	case api.Update:
		return d >= i.A+2, d - 1
	case api.Pop:
		return d >= i.A, d - i.A
	case api.Alloc:
		return true, d + i.A
	case api.Eval, api.Case:
		return d >= 1, d
	case api.Pack:
		return d >= i.A%256, d + 1 - i.A%256
	case api.Split:
		return d >= 1, d - 1 + i.A
	case api.Jump, api.Fail:
		return true, d
	case api.Unwind:
		return d == 1, d
	}
	return d >= 2, d - 1
}

func slowNext(i api.Ins, at int) []int {
	switch i.Op {
	case api.Jump:
		return []int{i.A}
	case api.Unwind, api.Fail:
		return nil
	case api.Case:
		var l []int
		for _, a := range i.Alts {
			l = append(l, a.To)
		}
		return l
	}
	return []int{at + 1}
}

// anyIns is an instruction of code with n instructions, with small numbers or now and then great ones.
func anyIns(r *rand.Rand, n int) api.Ins {
	op := r.Intn(21)
	switch op {
	case api.Int:
		return ins(op, r.Int())
	case api.Push, api.Slide, api.Update, api.Pop:
		return ins(op, r.Intn(3))
	case api.Alloc:
		return ins(op, 1+r.Intn(2)+997*r.Intn(20)/19)
	case api.Pack:
		return ins(op, r.Intn(256)*256+r.Intn(3))
	case api.Split:
		return ins(op, r.Intn(3)+200*r.Intn(5)/4)
	case api.Case:
		to := make([]int, 1+r.Intn(3))
		for k := range to {
			to[k] = r.Intn(n)
		}
		return fork(to...)
	case api.Jump:
		return ins(op, r.Intn(n))
	}
	return ins(op, 0)
}

func TestSoundAsTheDocumentSays(t *testing.T) {
	r := rand.New(rand.NewSource(1))
	good := 0
	for range 60000 {
		l := make([]api.Ins, 2+r.Intn(9))
		for k := range l {
			l[k] = anyIns(r, len(l))
		}
		l[len(l)-1] = ins(api.Unwind+r.Intn(2), 0)
		arity := r.Intn(4)
		at, bad := slowDepth(l, arity)
		e, place := Sound(one(arity, l...))
		if bad && (e != api.ErrDepth || place != (api.Place{At: at})) || !bad && (e != api.OK || place != (api.Place{})) {
			t.Fatalf("P3: Sound of %+v with arity %d: %d, %+v, want %v at %d", l, arity, e, place, bad, at)
		}
		if !bad {
			good++
		}
	}
	if good < 1000 || good > 59000 {
		t.Errorf("%d of 60000 objects are sound: these say too little", good)
	}
}
