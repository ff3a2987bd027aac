package machine

import "tarn/api"

// meter counts what a run may use only so much of.
type meter struct {
	used, most int
}

// take uses n more, if so many are left.
func (m *meter) take(n int) bool {
	if n > m.most-m.used {
		return false
	}
	m.used += n
	return true
}

// state is how the machine stands.
type state int

const (
	working state = iota // at an instruction
	settled              // with a value that nothing waits for, alone on the stack
	stopped              // for good; its kind tells why
)

// frame is what waits on the dump: where its stack begins, its code and its place there.
type frame struct {
	base int
	code []Ins
	at   int
}

// machine is one run of a program.
type machine struct {
	program *Program
	cells   []cell // the graph; first the globals, by their numbers
	// The stacks that wait lie under the machine's own one, each right above
	// the one that waited first: where the top lay that an Eval took from its
	// stack is where the stack of that Eval begins, and where its value is put.
	stack []ref
	frame
	dump  []frame
	steps meter
	made  meter // new cells
	state state
	kind  int // of outcome
	text  []byte
}

// newMachine begins with the globals as they are at the start of each run.
func newMachine(p *Program, fuel, cells int) *machine {
	m := &machine{program: p, steps: meter{most: fuel}, made: meter{most: cells}}
	m.cells = make([]cell, len(p.Globals))
	for k := range m.cells {
		m.cells[k] = cell{kind: global, n: k}
	}
	return m
}

// evaluate works a cell out, with nothing on the dump; false: the machine has stopped.
func (m *machine) evaluate(c ref) (ref, bool) {
	m.stack, m.frame, m.dump = append(m.stack[:0], c), frame{}, m.dump[:0]
	m.state = working
	m.look()
	for m.state == working {
		m.do()
	}
	if m.state == stopped {
		return 0, false // perhaps with nothing on the stack
	}
	return m.stack[0], true
}

func (m *machine) stop(kind int) {
	m.state, m.kind = stopped, kind
}

// step counts a step; false: it is one more than the fuel, and not done.
func (m *machine) step() bool {
	if !m.steps.take(1) {
		m.stop(api.OfFuel)
		return false
	}
	return true
}

// room counts n new cells; false: they are more than are left, and none is made.
func (m *machine) room(n int) bool {
	if !m.made.take(n) {
		m.stop(api.OfCells)
		return false
	}
	return true
}

func (m *machine) push(c ref) { m.stack = append(m.stack, c) }

// drop takes n cells.
func (m *machine) drop(n int) { m.stack = m.stack[:len(m.stack)-n] }

func (m *machine) pop() ref {
	c := *m.top(0)
	m.drop(1)
	return c
}

// top is the place of cell k, told from the top.
func (m *machine) top(k int) *ref { return &m.stack[len(m.stack)-1-k] }

// add puts a cell that room was counted for.
func (m *machine) add(c cell) {
	m.push(ref(len(m.cells)))
	m.cells = append(m.cells, c)
}

// put makes a new cell and puts it, if there is room.
func (m *machine) put(c cell) {
	if m.room(1) {
		m.add(c)
	}
}
