package machine

import "tarn/api"

// look is what Unwind does: it goes from cell to cell, till a global's code
// begins or there is a value. Each cell that it comes to is a step.
func (m *machine) look() {
next:
	if !m.step() {
		return
	}
	top := m.top(0)
	switch c := &m.cells[*top]; c.kind {
	case ind:
		*top = c.left
		goto next
	case app:
		m.push(c.left)
		goto next
	case hole:
		m.stop(api.OfLoop)
	case global:
		m.enter(m.program.Globals[c.n])
	default: // a number or record
		if m.under() > 0 {
			m.stop(api.OfApply)
			return
		}
		m.give(*top)
	}
}

// under is how many cells there are under the top.
func (m *machine) under() int { return len(m.stack) - 1 - m.base }

// enter begins the code of the global on the top, if there are args enough; if not, a function is the value.
func (m *machine) enter(g Global) {
	if m.under() < g.Arity {
		m.give(m.stack[m.base])
		return
	}
	for k := range g.Arity {
		if m.cells[*m.top(k + 1)].kind != app {
			m.stop(api.OfKind)
			return
		}
	}
	// The last App keeps its place; the global's place, and those of the Apps
	// above the last, take the arg of the App right under each.
	for k := range g.Arity {
		*m.top(k) = m.cells[*m.top(k + 1)].right
	}
	m.code, m.at = g.Code, 0
}

// give puts a value in the place of the stack that it was worked out on, and
// goes on with what waits for it.
func (m *machine) give(value ref) {
	m.stack = append(m.stack[:m.base], value)
	last := len(m.dump) - 1
	if last < 0 {
		m.state = settled
		return
	}
	m.frame, m.dump = m.dump[last], m.dump[:last]
}
