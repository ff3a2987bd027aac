package machine

import (
	"slices"
	"strconv"

	"tarn/api"
)

// tell works a cell out, and tells its value's text; false: the machine has stopped.
func (m *machine) tell(c ref) bool {
	value, is := m.evaluate(c)
	if !is || !m.step() {
		return false
	}
	// A copy, since working out the fields may write into the cell.
	switch v := m.cells[value]; v.kind {
	case number:
		return m.say(strconv.Itoa(v.n))
	case record:
		return m.tellRecord(v)
	}
	return m.say("fun")
}

// tellRecord calls tell again for each field: records in one another are never
// more than MaxOut lets be told.
func (m *machine) tellRecord(r cell) bool {
	if !m.say("(" + strconv.Itoa(r.n)) {
		return false
	}
	for _, f := range slices.Backward(r.fields) {
		if !m.say(" ") || !m.tell(f) {
			return false
		}
	}
	return m.say(")")
}

// say tells a piece of the text, if it is not too long with it.
func (m *machine) say(piece string) bool {
	if len(m.text)+len(piece) > api.MaxOut {
		m.stop(api.OfText)
		return false
	}
	m.text = append(m.text, piece...)
	return true
}
