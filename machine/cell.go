package machine

// kind is what a cell is.
type kind uint8

const (
	hole kind = iota
	number
	app
	record
	global
	ind
)

// ref is a cell's number in the graph. Cells are numbered, and not pointed at,
// since a stack may hold very many of them: it is half as long so, and has
// nothing in it that would have to be followed to find memory to free.
type ref int32

// cell of the graph.
type cell struct {
	kind   kind
	n      int   // a number; a record's tag; a global's number in the program
	left   ref   // what an App calls; the other cell of an Ind
	right  ref   // an App's arg
	fields []ref // of a record, as they lie on a stack: the first one is the last; never written into
}

// truth is what Same and Less give.
func truth(is bool) cell {
	if is {
		return cell{kind: record, n: 1}
	}
	return cell{kind: record}
}
