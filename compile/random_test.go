package compile

import (
	"math/rand"
	"slices"
	"strconv"
	"strings"
	"testing"

	"tarn/api"
)

// sort is what an Expr of a text made by chance is likely to come to; now and
// then it comes to another one, so that errors are met, too.
type sort int

const (
	whole sort = iota // a number
	row               // (0), or (1 a number, a row)
	truth             // what = and < give
	one               // a function of a number that gives a number
)

type named struct {
	name string
	sort sort
}

type proto struct {
	name   string
	params []sort
	gives  sort
}

// chance makes texts by chance.
type chance struct {
	*rand.Rand
	protos []proto
	known  []named
	fresh  int
	left   int // how many bytes there is room for, about
}

func (c *chance) pick(l ...string) string { return l[c.Intn(len(l))] }

// name is a new name, or one that hides another.
func (c *chance) name() string {
	if len(c.known) > 0 && c.Intn(6) == 0 {
		return c.known[c.Intn(len(c.known))].name
	}
	c.fresh++
	return string(rune('a'+c.fresh%26)) + strconv.Itoa(c.fresh%7)
}

// within makes an Expr in which more names are known.
func (c *chance) within(more []named, make func() string) string {
	old := c.known
	c.known = append(append([]named(nil), old...), more...)
	s := make()
	c.known = old
	return s
}

func (c *chance) expr(want sort, nest int) string {
	if c.Intn(60) == 0 {
		want = sort(c.Intn(4))
	}
	if nest <= 0 || c.left < 0 {
		return c.leaf(want)
	}
	s := c.inner(want, nest-1)
	c.left -= 3
	return s
}

func (c *chance) leaf(want sort) string {
	var l []string
	for _, n := range c.known {
		if n.sort == want {
			l = append(l, n.name, n.name)
		}
	}
	switch want {
	case whole:
		l = append(l, strconv.Itoa(c.Intn(9)-2))
	case row:
		l = append(l, "(con 0)")
	case truth:
		l = append(l, "(con 1)", "(con 0)")
	case one:
		for _, p := range c.protos {
			if p.gives == whole && len(p.params) == 1 && p.params[0] == whole {
				l = append(l, p.name)
			}
		}
		l = append(l, "inc")
	}
	s := c.pick(l...)
	c.left -= len(s) + 1
	return s
}

func (c *chance) inner(want sort, nest int) string {
	switch k := c.Intn(10); {
	case k < 2:
		return c.call(want, nest)
	case k == 2 && len(c.known) < 15:
		return c.let(want, nest)
	case k == 3 && len(c.known) < 15:
		return c.letrec(want, nest)
	case k == 4 && len(c.known) < 15:
		return "(case " + c.expr(row, nest) + " " + c.rowBranches(want, nest) + ")"
	case k == 5:
		return "(case " + c.expr(truth, nest) + " (1 () " + c.expr(want, nest) + ") (0 () " + c.expr(want, nest) + "))"
	case k == 6:
		return c.leaf(want)
	}
	switch want {
	case whole:
		return "(" + c.pick("+", "-", "*", "+", "-", "/") + " " + c.expr(whole, nest) + " " + c.expr(whole, nest) + ")"
	case row:
		return "(con 1 " + c.expr(whole, nest) + " " + c.expr(row, nest) + ")"
	case truth:
		return "(" + c.pick("=", "<") + " " + c.expr(whole, nest) + " " + c.expr(whole, nest) + ")"
	}
	return "(add " + c.expr(whole, nest) + ")"
}

func (c *chance) rowBranches(want sort, nest int) string {
	h, t := c.name(), c.name()
	if h == t {
		t += "x"
	}
	some := "(1 (" + h + " " + t + ") " + c.within([]named{{h, whole}, {t, row}}, func() string { return c.expr(want, nest) }) + ")"
	if c.Intn(12) == 0 {
		return some
	}
	return "(0 () " + c.expr(want, nest) + ") " + some
}

func (c *chance) call(want sort, nest int) string {
	var l []string
	for _, p := range c.protos {
		if p.gives != want {
			continue
		}
		s := p.name
		for _, a := range p.params {
			s += " " + c.expr(a, nest)
		}
		if len(p.params) > 0 {
			s = "(" + s + ")"
		}
		l = append(l, s)
		c.left -= len(s)
	}
	if want == whole {
		l = append(l, "("+c.expr(one, nest)+" "+c.expr(whole, nest)+")")
	}
	if len(l) == 0 {
		return c.leaf(want)
	}
	return c.pick(l...)
}

func (c *chance) let(want sort, nest int) string {
	var more []named
	s := ""
	for range 1 + c.Intn(2) {
		n := named{c.name() + strconv.Itoa(len(more)), sort(c.Intn(4))}
		s += "(" + n.name + " " + c.expr(n.sort, nest) + ")"
		more = append(more, n)
	}
	return "(let (" + s + ") " + c.within(more, func() string { return c.expr(want, nest) }) + ")"
}

func (c *chance) letrec(want sort, nest int) string {
	var more []named
	for range 1 + c.Intn(2) {
		more = append(more, named{c.name() + strconv.Itoa(len(more)), sort(c.Intn(4))})
	}
	return c.within(more, func() string {
		s := ""
		for _, n := range more {
			s += "(" + n.name + " " + c.expr(n.sort, nest) + ")"
		}
		return "(letrec (" + s + ") " + c.expr(want, nest) + ")"
	})
}

// def is a def that likely comes to an end: it counts its first param down.
func (c *chance) def(p proto) string {
	var params []string
	for k, s := range p.params {
		c.known = append(c.known, named{"p" + strconv.Itoa(k), s})
		params = append(params, "p"+strconv.Itoa(k))
	}
	body := c.expr(p.gives, 4)
	if len(params) > 0 && p.params[0] == whole && c.Intn(8) > 0 {
		protos := c.protos
		c.protos = append([]proto(nil), protos[:2]...)
		base := c.expr(p.gives, 2)
		c.protos = protos
		body = "(case (< p0 1) (1 () " + base + ") (0 () (let ((p0 (- p0 1))) " + body + ")))"
	}
	c.known = nil
	return "(def " + p.name + " (" + strings.Join(params, " ") + ") " + body + ")"
}

// written is a def by chance, as it stands in a text.
type written struct {
	name  string
	arity int
	text  string
}

// defs are those of a program; room is how long they are about.
func (c *chance) defs(room int) []written {
	c.protos = []proto{{"inc", []sort{whole}, whole}, {"add", []sort{whole, whole}, whole}}
	for k := range 1 + c.Intn(3) {
		p := proto{name: "f" + strconv.Itoa(k), gives: sort(c.Intn(4))}
		for range c.Intn(4) {
			p.params = append(p.params, sort(c.Intn(4)))
		}
		c.protos = append(c.protos, p)
	}
	c.left = room
	l := []written{{"inc", 1, "(def inc (x) (+ x 1))"}, {"add", 2, "(def add (x y) (+ x y))"}}
	for _, p := range c.protos[2:] {
		l = append(l, written{p.name, len(p.params), c.def(p)})
	}
	c.left += room / 2
	return append(l, written{"main", 0, c.def(proto{name: "main", gives: c.mainSort()})})
}

// apart puts each def into one of so many modules; each of these imports the defs of the others.
func (c *chance) apart(l []written, modules int) []string {
	var own, others [api.MaxModules]string
	for _, d := range l {
		in := c.Intn(modules)
		for k := range modules {
			if k == in {
				own[k] += d.text
			} else {
				others[k] += "(import " + d.name + " " + strconv.Itoa(d.arity) + ")"
			}
		}
	}
	var texts []string
	for k := range modules {
		texts = append(texts, "(module m"+strconv.Itoa(k)+" "+others[k]+own[k]+")")
	}
	return texts
}

func tooLong(texts []string) bool {
	return slices.ContainsFunc(texts, func(s string) bool { return len(s) > api.MaxText })
}

func (c *chance) mainSort() sort {
	if c.Intn(3) == 0 {
		return row
	}
	return sort(c.Intn(4))
}

// TestTextsByChance: the machine tells of each what it means, with no more steps and cells than it may take.
func TestTextsByChance(t *testing.T) {
	c := &chance{Rand: rand.New(rand.NewSource(1))}
	seen := map[int]int{}
	for range 2500 {
		texts := c.apart(c.defs(20+c.Intn(250)), 1)
		if !tooLong(texts) {
			seen[agree(t, texts...)]++
		}
	}
	for _, kind := range []int{api.OfValue, api.OfKind, api.OfMatch, api.OfZero, never} {
		if seen[kind] < 5 {
			t.Errorf("%d of the texts come to %d: these say too little", seen[kind], kind)
		}
	}
}

// TestModulesByChance: the same defs in several modules mean what they mean in one.
func TestModulesByChance(t *testing.T) {
	c := &chance{Rand: rand.New(rand.NewSource(2))}
	seen := map[int]int{}
	for range 1000 {
		l := c.defs(20 + c.Intn(250))
		one, several := c.apart(l, 1), c.apart(l, 2+c.Intn(api.MaxModules-1))
		if tooLong(one) || tooLong(several) {
			continue
		}
		kind, other := agree(t, one...), agree(t, several...)
		if kind != other {
			t.Errorf("%s: %d, but %s: %d", one, kind, several, other)
		}
		seen[kind]++
	}
	for _, kind := range []int{api.OfValue, api.OfKind, api.OfMatch, api.OfZero, never} {
		if seen[kind] < 2 {
			t.Errorf("%d of the texts come to %d: these say too little", seen[kind], kind)
		}
	}
}
