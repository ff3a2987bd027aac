package compile

import (
	"strconv"

	"tarn/api"
	"tarn/syntax"
)

// The meaning of texts, worked out on their trees, as the document's section
// 'What it means' has it: it knows nothing of objects and machines.

// never stands beside api's kinds of outcomes: nothing ever comes.
const never = -1

// stop is how a meaning ends but with a value.
type stop int

// stopped tells how the work ends: with a value, or a stop.
func stopped(work func()) (kind int) {
	defer func() {
		switch s := recover().(type) {
		case nil:
		case stop:
			kind = int(s)
		default:
			panic(s)
		}
	}()
	work()
	return api.OfValue
}

// thunk is worked out when it is needed, and once.
type thunk struct {
	work    func() any
	begun   bool
	value   any
	isValue bool
}

type record struct {
	tag    int
	fields []*thunk
}

type function struct {
	def  *syntax.Def
	args []*thunk
}

// scope is a row of names, the innermost first.
type scope struct {
	name  string
	thunk *thunk
	outer *scope
}

type meaning struct {
	defs  map[string]*syntax.Def
	alone map[string]*thunk // of the defs without params
	moves int
	most  int
	text  string
}

// means tells what main means, and in how many moves it comes to its end; never, if they are more than most.
func means(most int, modules ...syntax.Module) (kind int, text string, moves int) {
	m := &meaning{defs: map[string]*syntax.Def{}, alone: map[string]*thunk{}, most: most}
	for _, module := range modules {
		for _, d := range module.Defs {
			m.defs[d.Name.Text] = &d
			if len(d.Params) == 0 {
				m.alone[d.Name.Text] = &thunk{work: func() any {
					m.move()
					return m.eval(d.Body, nil)
				}}
			}
		}
	}
	kind = stopped(func() { m.tell(m.force(m.alone["main"])) })
	if kind == api.OfValue {
		text = m.text
	}
	return kind, text, m.moves
}

func (m *meaning) move() {
	m.moves++
	if m.moves > m.most {
		panic(stop(never))
	}
}

func (m *meaning) force(t *thunk) any {
	if !t.isValue {
		if t.begun {
			panic(stop(never))
		}
		t.begun = true
		t.value, t.isValue = t.work(), true
	}
	return t.value
}

func (m *meaning) later(e syntax.Expr, s *scope) *thunk {
	return &thunk{work: func() any { return m.eval(e, s) }}
}

func (m *meaning) laters(l []syntax.Expr, s *scope) []*thunk {
	var out []*thunk
	for _, e := range l {
		out = append(out, m.later(e, s))
	}
	return out
}

func (m *meaning) eval(e syntax.Expr, s *scope) any {
	switch x := e.(type) {
	case syntax.Number:
		return x.Value
	case syntax.Name:
		return m.name(x.Text, s)
	case syntax.Call:
		return m.call(m.eval(x.Func, s), m.laters(x.Args, s))
	case syntax.Let:
		return m.let(x, s)
	case syntax.Con:
		return record{x.Tag, m.laters(x.Fields, s)}
	case syntax.Case:
		return m.branch(x, m.eval(x.Expr, s), s)
	case syntax.Op:
		l := m.eval(x.Left, s)
		return m.op(x.Op, l, m.eval(x.Right, s))
	}
	panic("no Expr")
}

func (m *meaning) name(text string, s *scope) any {
	for ; s != nil; s = s.outer {
		if s.name == text {
			return m.force(s.thunk)
		}
	}
	if t := m.alone[text]; t != nil {
		return m.force(t)
	}
	return function{def: m.defs[text]}
}

func (m *meaning) call(f any, args []*thunk) any {
	for len(args) > 0 {
		g, ok := f.(function)
		if !ok {
			panic(stop(api.OfApply))
		}
		n := min(len(args), len(g.def.Params)-len(g.args))
		all := append(append([]*thunk(nil), g.args...), args[:n]...)
		args = args[n:]
		if len(all) < len(g.def.Params) {
			return function{g.def, all}
		}
		m.move()
		var s *scope
		for k, p := range g.def.Params {
			s = &scope{p.Text, all[k], s}
		}
		f = m.eval(g.def.Body, s)
	}
	return f
}

func (m *meaning) let(x syntax.Let, s *scope) any {
	inner := s
	var l []*thunk
	for _, n := range x.Names {
		l = append(l, &thunk{})
		inner = &scope{n.Text, l[len(l)-1], inner}
	}
	for k, e := range x.Exprs {
		if x.Rec {
			*l[k] = *m.later(e, inner)
		} else {
			*l[k] = *m.later(e, s)
		}
	}
	return m.eval(x.Body, inner)
}

func (m *meaning) branch(x syntax.Case, v any, s *scope) any {
	r, ok := v.(record)
	if !ok {
		panic(stop(api.OfKind))
	}
	for _, b := range x.Branches {
		if b.Tag != r.tag {
			continue
		}
		if len(b.Names) != len(r.fields) {
			panic(stop(api.OfKind))
		}
		m.move()
		for k, n := range b.Names {
			s = &scope{n.Text, r.fields[k], s}
		}
		return m.eval(b.Body, s)
	}
	panic(stop(api.OfMatch))
}

func (m *meaning) op(op int, l, r any) any {
	a, isLeft := l.(int)
	b, isRight := r.(int)
	if !isLeft || !isRight {
		panic(stop(api.OfKind))
	}
	if op == api.Div && b == 0 {
		panic(stop(api.OfZero))
	}
	m.move()
	truth := map[bool]int{true: 1}
	switch op {
	case api.Add:
		return a + b
	case api.Sub:
		return a - b
	case api.Mul:
		return a * b
	case api.Div:
		return a / b
	case api.Same:
		return record{tag: truth[a == b]}
	}
	return record{tag: truth[a < b]}
}

func (m *meaning) tell(v any) {
	switch x := v.(type) {
	case int:
		m.say(strconv.Itoa(x))
	case function:
		m.say("fun")
	case record:
		m.say("(" + strconv.Itoa(x.tag))
		for _, f := range x.fields {
			m.say(" ")
			m.tell(m.force(f))
		}
		m.say(")")
	}
}

func (m *meaning) say(piece string) {
	if len(m.text)+len(piece) > api.MaxOut {
		panic(stop(api.OfText))
	}
	m.text += piece
}
