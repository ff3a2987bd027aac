package machine_test

import (
	"math"
	"math/rand"
	"slices"
	"strconv"
	"testing"

	"tarn/api"
	"tarn/link"
	"tarn/object"
)

// maker writes the code of a global by chance, so that it is sound: it knows
// how many cells are the global's own, and goes back only to where there were as many.
type maker struct {
	*rand.Rand
	globals []api.Import // by their numbers in the object
	name    string
	code    []api.Ins
	d       int
	places  map[int][]int // by d
}

func (m *maker) put(op, a int) {
	i := api.Ins{Op: op, A: a}
	m.code = append(m.code, i)
	m.d = object.Behind(i, m.d)
}

// block writes code up to where it ends, with about so many pieces.
func (m *maker) block(pieces int) {
	for ; pieces > 0 && m.d < 40; pieces-- {
		m.places[m.d] = append(m.places[m.d], len(m.code))
		if m.Intn(9) == 0 {
			m.fork(pieces / 2)
			return
		}
		m.piece()
	}
	m.end()
}

// end ends a block, mostly as compiled code does.
func (m *maker) end() {
	back := m.places[m.d]
	switch k := m.Intn(30); {
	case k == 0:
		m.put(api.Fail, 0)
	case k < 3 && len(back) > 0:
		m.put(api.Jump, back[m.Intn(len(back))])
	case m.d == 0:
		m.number()
		m.put(api.Unwind, 0)
	case k < 6 || m.d == 1:
		m.put(api.Slide, m.d-1)
		m.put(api.Unwind, 0)
	default:
		if k < 12 {
			m.put(api.Eval, 0)
		}
		m.put(api.Update, m.d-2)
		m.put(api.Pop, m.d-1)
		m.put(api.Unwind, 0)
	}
}

// fork writes a Case of what is likely a record, and its branches.
func (m *maker) fork(pieces int) {
	if m.Intn(4) > 0 || m.d == 0 {
		m.number()
		m.number()
		m.put(api.Same+m.Intn(2), 0)
	} else {
		m.cell()
		m.put(api.Eval, 0)
	}
	at, d := len(m.code), m.d
	m.put(api.Case, 0)
	var alts []api.Alt
	for _, tag := range m.Perm(3)[:1+m.Intn(3)] {
		alts = append(alts, api.Alt{Tag: tag, To: len(m.code)})
		m.d = d
		m.block(pieces)
	}
	m.code[at].Alts = alts
}

// global is the number of a global, mostly of one whose name stands behind
// that of the code's own: too much would never come to an end otherwise.
func (m *maker) global() int {
	for range 6 {
		if k := m.Intn(len(m.globals)); m.globals[k].Name > m.name {
			return k
		}
	}
	return m.Intn(len(m.globals))
}

func (m *maker) number() {
	l := []int{0, 0, 1, 1, 2, 3, -1, 7, -40, math.MaxInt, math.MinInt}
	m.put(api.Int, l[m.Intn(len(l))])
}

// cell puts one of the global's own cells, or if there is none a number.
func (m *maker) cell() {
	if m.d == 0 || m.Intn(4) == 0 {
		m.number()
		return
	}
	m.put(api.Push, m.Intn(m.d))
}

// call puts a call of a global, with about as many args as it has params.
func (m *maker) call() {
	g := m.global()
	n := max(0, m.globals[g].Arity+m.Intn(7)/3-m.Intn(5)/4)
	for range n {
		m.cell()
	}
	m.put(api.Glob, g)
	for range n {
		m.put(api.Ap, 0)
	}
}

// knot puts a record that has itself, by an Ind.
func (m *maker) knot() {
	m.put(api.Alloc, 1)
	m.put(api.Push, 0)
	m.put(api.Pack, object.PackOf(m.Intn(3), 1))
	m.put(api.Push, 0)
	m.put(api.Update, 1)
}

// spy puts a call with two args, whose first one leads to a record that has
// this call: so that the function can write into it while it is being worked out.
func (m *maker) spy() {
	m.put(api.Alloc, 1)
	m.cell()
	m.put(api.Push, 1)
	m.put(api.Glob, m.global())
	m.put(api.Ap, 0)
	m.put(api.Ap, 0)
	m.put(api.Push, 0)
	m.put(api.Pack, object.PackOf(1, 1))
	m.put(api.Update, 1)
}

// meddle writes into what such a record has, if cell k leads to one.
func (m *maker) meddle(k int) {
	m.put(api.Push, k)
	m.put(api.Eval, 0)
	m.put(api.Split, 1)
	m.cell()
	m.put(api.Update, 0)
}

// sum puts what an op makes of two cells.
func (m *maker) sum() {
	for range 2 {
		m.cell()
		if m.Intn(6) > 0 {
			m.put(api.Eval, 0)
		}
	}
	m.put(api.Add+m.Intn(6), 0)
}

// piece writes a few instructions that go together, or one that may not fit what is there.
func (m *maker) piece() {
	few := min(m.d, m.Intn(4))
	switch k := m.Intn(38); {
	case k < 4:
		m.cell()
	case k < 12:
		m.call()
	case k < 14:
		m.sum()
	case k < 17:
		m.number()
		m.number()
		m.put(api.Add+m.Intn(6), 0)
	case k < 20:
		m.put(api.Pack, object.PackOf(m.Intn(3), few))
		if m.Intn(3) == 0 {
			m.put(api.Split, few)
		}
	case k == 20:
		m.knot()
	case k == 21:
		m.put(api.Alloc, 1+m.Intn(3))
	case k == 22:
		m.put(api.Pop, few)
	case m.d == 0:
		m.call()
	case k == 23:
		m.put(api.Slide, min(m.d-1, few))
	case k < 27:
		m.put(api.Eval, 0)
	case k == 27:
		m.put(api.Eval, 0)
		m.put(api.Split, m.Intn(3))
	case k < 31 && m.d > 1:
		m.put(api.Update, m.Intn(m.d-1))
	case k == 31 && m.d > 1:
		m.put(api.Ap, 0)
	case k < 34:
		m.spy()
	case k < 36:
		m.meddle(m.Intn(m.d))
	default:
		m.put(api.Glob, m.global())
	}
}

// codeOf is the code of a global, in an object with these globals. Now and
// then it meddles with its first arg first.
func codeOf(r *rand.Rand, g api.Global, globals []api.Import) []api.Ins {
	m := &maker{Rand: r, globals: globals, name: g.Name, d: g.Arity + 1, places: map[int][]int{}}
	if g.Arity > 0 && r.Intn(4) == 0 {
		m.meddle(0)
		if r.Intn(2) == 0 {
			m.put(api.Glob, m.global())
			m.put(api.Slide, m.d-1)
			m.put(api.Unwind, 0)
			return m.code
		}
	}
	m.block(1 + r.Intn(9))
	return m.code
}

// objectsOf are some objects that import each other's globals, one of which is
// main. Each has a global of its own, too, which has the same name in all of them.
func objectsOf(r *rand.Rand) []api.Object {
	objects := make([]api.Object, 1+r.Intn(3))
	names := []string{"main", "n", "o", "p", "q", "r"}[:2+r.Intn(5)]
	for k, name := range names {
		i := api.Import{Name: name, Arity: r.Intn(3) * min(k, 1)}
		home := r.Intn(len(objects))
		for at := range objects {
			o := &objects[at]
			if at == home {
				o.Globals = append(o.Globals, api.Global{Name: i.Name, Arity: i.Arity, Export: true})
			} else if r.Intn(4) > 0 {
				o.Imports = append(o.Imports, i)
			}
		}
	}
	for at := range objects {
		objects[at].Name = "m" + strconv.Itoa(at)
		fill(r, &objects[at])
	}
	return objects
}

// fill gives an object its own global, and all of them their code.
func fill(r *rand.Rand, o *api.Object) {
	o.Globals = append(o.Globals, api.Global{Name: "z", Arity: r.Intn(3)})
	all := slices.Clone(o.Imports)
	for _, g := range o.Globals {
		all = append(all, api.Import{Name: g.Name, Arity: g.Arity})
	}
	for k, g := range o.Globals {
		o.Globals[k].Code = codeOf(r, g, all)
	}
}

// TestProgramsByChance holds the machine against the plain one: all that they
// tell, with fuel and cells enough and with less.
func TestProgramsByChance(t *testing.T) {
	r := rand.New(rand.NewSource(1))
	kinds, seen := map[int]int{}, map[string]int{}
	for range 6000 {
		objects := objectsOf(r)
		p, err := link.Objects(objects, "main")
		if err != nil {
			t.Fatalf("%v: %+v", err, objects)
		}
		fuel, cells := 3000, 1000
		for range 4 {
			want := run(fuel, cells, seen, objects...)
			if got := p.Run(fuel, cells); got != want {
				t.Fatalf("%+v with fuel %d and cells %d: %+v, want %+v", objects, fuel, cells, got, want)
			}
			kinds[want.Kind]++
			if r.Intn(2) == 0 {
				fuel = max(0, want.Steps-r.Intn(3))
			} else {
				cells = max(0, want.Cells-r.Intn(3))
			}
		}
	}
	for kind := api.OfValue; kind <= api.OfText; kind++ {
		if kinds[kind] < 50 {
			t.Errorf("%d of the runs end with %d: these say too little", kinds[kind], kind)
		}
	}
	for _, what := range []string{"a function whose cell is an Ind", "a call that is no App any more", "an update of a function", "an update of a record"} {
		if seen[what] < 10 {
			t.Errorf("%s was met %d times: this says too little", what, seen[what])
		}
	}
}
