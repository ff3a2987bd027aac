// Package machine runs programs: it rewrites a graph of cells, with a bound on
// steps and on new cells.
package machine

import "tarn/api"

// Program is what was linked. No run writes into it.
type Program struct {
	Globals []Global
	Entry   int // the number of the global that a run works out
}

// Global has no name any more: its number in the program stands for it.
type Global struct {
	Arity int
	Code  []Ins
}

// Ins is an instruction of a sound object, but for A of a Glob, which is the
// global's number in the program.
type Ins struct {
	Op, A int
	Alts  []Alt
}

// Alt takes as little room as can be: there may be 256 of each of MaxImage instructions.
type Alt struct {
	Tag uint8
	To  uint16
}

// Run works the entry out, and tells its value's text, or why there is none.
func (p *Program) Run(fuel, cells int) api.Outcome {
	m := newMachine(p, within(fuel, api.MaxFuel), within(cells, api.MaxCells))
	m.tell(ref(p.Entry))
	out := api.Outcome{Kind: m.kind, Steps: m.steps.used, Cells: m.made.used}
	if m.kind == api.OfValue {
		out.Text = string(m.text)
	}
	return out
}

// within is the number from 0 to most that is next to n.
func within(n, most int) int { return max(0, min(n, most)) }
