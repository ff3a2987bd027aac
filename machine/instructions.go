package machine

import (
	"tarn/api"
	"tarn/object"
)

// do does the instruction at the place, if there is fuel.
func (m *machine) do() {
	if !m.step() {
		return
	}
	i := &m.code[m.at]
	m.at++
	switch i.Op {
	case api.Int:
		m.put(cell{kind: number, n: i.A})
	case api.Glob:
		m.push(ref(i.A))
	case api.Push:
		m.push(*m.top(i.A))
	case api.Ap:
		f, x := m.pop(), m.pop()
		m.put(cell{kind: app, left: f, right: x})
	case api.Slide:
		c := m.pop()
		m.drop(i.A)
		m.push(c)
	case api.Update:
		c := m.pop()
		m.cells[*m.top(i.A)] = cell{kind: ind, left: c}
	case api.Pop:
		m.drop(i.A)
	case api.Alloc:
		m.alloc(i.A)
	case api.Eval:
		m.dump = append(m.dump, m.frame)
		m.base = len(m.stack) - 1
		m.look()
	case api.Pack:
		m.pack(object.PackParts(i.A))
	case api.Split:
		m.split(i.A)
	case api.Case:
		m.fork(i.Alts)
	case api.Jump:
		m.at = i.A
	case api.Unwind:
		m.look()
	case api.Fail:
		m.stop(api.OfMatch)
	default:
		m.calculate(i.Op)
	}
}

func (m *machine) alloc(n int) {
	if !m.room(n) {
		return
	}
	for range n {
		m.add(cell{kind: hole})
	}
}

func (m *machine) pack(tag, n int) {
	fields := make([]ref, n)
	copy(fields, m.stack[len(m.stack)-n:])
	m.drop(n)
	m.put(cell{kind: record, n: tag, fields: fields})
}

func (m *machine) split(n int) {
	c := m.cells[m.pop()]
	if c.kind != record || len(c.fields) != n {
		m.stop(api.OfKind)
		return
	}
	m.stack = append(m.stack, c.fields...)
}

// fork goes on at the To of the top's tag.
func (m *machine) fork(alts []Alt) {
	c := &m.cells[*m.top(0)]
	if c.kind != record {
		m.stop(api.OfKind)
		return
	}
	for _, a := range alts {
		if int(a.Tag) == c.n {
			m.at = int(a.To)
			return
		}
	}
	m.stop(api.OfMatch)
}

// calculate does an op of two numbers. What is wrong with them is told ahead
// of there being no room: no new cell is made then.
func (m *machine) calculate(op int) {
	r, l := m.cells[m.pop()], m.cells[m.pop()]
	if l.kind != number || r.kind != number {
		m.stop(api.OfKind)
		return
	}
	switch op {
	case api.Add:
		m.put(cell{kind: number, n: l.n + r.n})
	case api.Sub:
		m.put(cell{kind: number, n: l.n - r.n})
	case api.Mul:
		m.put(cell{kind: number, n: l.n * r.n})
	case api.Div:
		if r.n == 0 {
			m.stop(api.OfZero)
			return
		}
		m.put(cell{kind: number, n: l.n / r.n})
	case api.Same:
		m.put(truth(l.n == r.n))
	case api.Less:
		m.put(truth(l.n < r.n))
	}
}
