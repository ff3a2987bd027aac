package machine_test

import (
	"strconv"

	"tarn/api"
)

// A second machine, which follows the document's words and nothing else.

type cell struct {
	kind   byte // 'n' a number, 'a' App, 'r' a record, 'g' a global, 'i' Ind, 'h' Hole
	number int  // of a number; the tag of a record; the arity of a global
	cells  []*cell
	code   []api.Ins
	globs  []*cell // by their numbers in the global's object
}

// wait is what waits on the dump.
type wait struct {
	stack []*cell
	code  []api.Ins
	globs []*cell
	at    int
}

type machine struct {
	wait        // the stack, the code and the place
	dump        []wait
	fuel, cells int
	text        string
	seen        map[string]int // how often it came to what is rare
}

// stop is how a run ends but with a value.
type stop int

// run links objects whose names fit together, and tells how main goes, with
// fuel and cells that are within the limits.
func run(fuel, cells int, seen map[string]int, objects ...api.Object) (out api.Outcome) {
	m := &machine{fuel: fuel, cells: cells, seen: seen}
	out.Kind = stopped(func() { m.tell(m.evaluate(load(objects)["main"])) })
	if out.Kind == api.OfValue {
		out.Text = m.text
	}
	out.Steps, out.Cells = fuel-m.fuel, cells-m.cells
	return out
}

// stopped tells how the work ends: with a value, or a stop.
func stopped(work func()) (kind int) {
	defer func() {
		switch s := recover().(type) {
		case nil:
		case stop:
			kind = int(s)
		default:
			panic(s)
		}
	}()
	work()
	return api.OfValue
}

// load makes the cells of all globals, and gives those that are exported.
func load(objects []api.Object) map[string]*cell {
	exports := map[string]*cell{}
	globs := make([][]*cell, len(objects))
	for k, o := range objects {
		for _, g := range o.Globals {
			c := &cell{kind: 'g', number: g.Arity, code: g.Code}
			globs[k] = append(globs[k], c)
			if g.Export {
				exports[g.Name] = c
			}
		}
	}
	for k, o := range objects {
		var all []*cell
		for _, i := range o.Imports {
			all = append(all, exports[i.Name])
		}
		all = append(all, globs[k]...)
		for _, c := range globs[k] {
			c.globs = all
		}
	}
	return exports
}

func (m *machine) step() {
	if m.fuel == 0 {
		panic(stop(api.OfFuel))
	}
	m.fuel--
}

// claim is room for n new cells.
func (m *machine) claim(n int) {
	if m.cells < n {
		panic(stop(api.OfCells))
	}
	m.cells -= n
}

func (m *machine) make(c cell) *cell {
	m.claim(1)
	return &c
}

func (m *machine) see(is bool, what string) {
	if is {
		m.seen[what]++
	}
}

func (m *machine) push(c *cell) { m.stack = append(m.stack, c) }

func (m *machine) pop() *cell {
	c := m.stack[len(m.stack)-1]
	m.stack = m.stack[:len(m.stack)-1]
	return c
}

// top is cell k of the stack.
func (m *machine) top(k int) **cell { return &m.stack[len(m.stack)-1-k] }

// tell tells a value's text.
func (m *machine) tell(c *cell) {
	m.step()
	if c.kind == 'n' {
		m.say(strconv.Itoa(c.number))
		return
	}
	if c.kind != 'r' {
		m.say("fun")
		return
	}
	m.say("(" + strconv.Itoa(c.number))
	for _, f := range c.cells {
		m.say(" ")
		m.tell(m.evaluate(f))
	}
	m.say(")")
}

func (m *machine) say(piece string) {
	if len(m.text)+len(piece) > api.MaxOut {
		panic(stop(api.OfText))
	}
	m.text += piece
}

// evaluate works a cell out from an empty dump.
func (m *machine) evaluate(c *cell) *cell {
	m.wait = wait{stack: []*cell{c}}
	m.dump = nil
	for running := m.unwind(); running; {
		running = m.ins()
	}
	return m.stack[0]
}

// unwind looks at the top till there is a value or a code begins; false: nothing waits for the value.
func (m *machine) unwind() bool {
	for {
		m.step()
		c := *m.top(0)
		switch c.kind {
		case 'i':
			*m.top(0) = c.cells[0]
		case 'a':
			m.push(c.cells[0])
		case 'h':
			panic(stop(api.OfLoop))
		case 'g':
			if len(m.stack)-1 >= c.number {
				m.enter(c)
				return true
			}
			m.see(m.stack[0].kind == 'i', "a function whose cell is an Ind")
			return m.give(m.stack[0])
		default:
			if len(m.stack) > 1 {
				panic(stop(api.OfApply))
			}
			return m.give(c)
		}
	}
}

func (m *machine) give(c *cell) bool {
	if len(m.dump) == 0 {
		m.stack = []*cell{c}
		return false
	}
	m.wait = m.dump[len(m.dump)-1]
	m.dump = m.dump[:len(m.dump)-1]
	m.push(c)
	return true
}

func (m *machine) enter(g *cell) {
	if g.number > 0 {
		m.pop()
		var args []*cell
		var last *cell
		for range g.number {
			last = m.pop()
			if last.kind != 'a' {
				m.see(true, "a call that is no App any more")
				panic(stop(api.OfKind))
			}
			args = append(args, last.cells[1])
		}
		m.push(last)
		for k := range args {
			m.push(args[len(args)-1-k])
		}
	}
	m.code, m.globs, m.at = g.code, g.globs, 0
}

// ins does an instruction; false: the machine has a value that nothing waits for.
func (m *machine) ins() bool {
	m.step()
	i := m.code[m.at]
	m.at++
	switch i.Op {
	case api.Int:
		m.push(m.make(cell{kind: 'n', number: i.A}))
	case api.Glob:
		m.push(m.globs[i.A])
	case api.Push:
		m.push(*m.top(i.A))
	case api.Ap:
		f, x := m.pop(), m.pop()
		m.push(m.make(cell{kind: 'a', cells: []*cell{f, x}}))
	case api.Slide:
		c := m.pop()
		m.stack = append(m.stack[:len(m.stack)-i.A], c)
	case api.Update:
		c := m.pop()
		m.see((*m.top(i.A)).kind == 'g' && (*m.top(i.A)).number > 0, "an update of a function")
		m.see((*m.top(i.A)).kind == 'r', "an update of a record")
		**m.top(i.A) = cell{kind: 'i', cells: []*cell{c}}
	case api.Pop:
		m.stack = m.stack[:len(m.stack)-i.A]
	case api.Alloc:
		m.claim(i.A)
		for range i.A {
			m.push(&cell{kind: 'h'})
		}
	case api.Eval:
		c := m.pop()
		m.dump = append(m.dump, m.wait)
		m.stack = []*cell{c}
		return m.unwind()
	case api.Unwind:
		return m.unwind()
	default:
		m.data(i)
	}
	return true
}

// data does the instructions that look at numbers and records.
func (m *machine) data(i api.Ins) {
	switch i.Op {
	case api.Pack:
		c := cell{kind: 'r', number: i.A / 256}
		for range i.A % 256 {
			c.cells = append(c.cells, m.pop())
		}
		m.push(m.make(c))
	case api.Split:
		c := m.pop()
		if c.kind != 'r' || len(c.cells) != i.A {
			panic(stop(api.OfKind))
		}
		for k := range c.cells {
			m.push(c.cells[len(c.cells)-1-k])
		}
	case api.Case:
		m.at = branchOf(*m.top(0), i.Alts)
	case api.Jump:
		m.at = i.A
	case api.Fail:
		panic(stop(api.OfMatch))
	default:
		r, l := m.pop(), m.pop()
		if l.kind != 'n' || r.kind != 'n' {
			panic(stop(api.OfKind))
		}
		m.push(m.make(arith(i.Op, l.number, r.number)))
	}
}

func branchOf(c *cell, alts []api.Alt) int {
	if c.kind != 'r' {
		panic(stop(api.OfKind))
	}
	for _, a := range alts {
		if a.Tag == c.number {
			return a.To
		}
	}
	panic(stop(api.OfMatch))
}

func arith(op, l, r int) cell {
	truth := map[bool]int{true: 1}
	switch op {
	case api.Add:
		return cell{kind: 'n', number: l + r}
	case api.Sub:
		return cell{kind: 'n', number: l - r}
	case api.Mul:
		return cell{kind: 'n', number: l * r}
	case api.Same:
		return cell{kind: 'r', number: truth[l == r]}
	case api.Less:
		return cell{kind: 'r', number: truth[l < r]}
	}
	if r == 0 {
		panic(stop(api.OfZero))
	}
	return cell{kind: 'n', number: l / r}
}
