// Package link makes one program of several objects.
package link

import (
	"tarn/api"
	"tarn/fault"
	"tarn/machine"
	"tarn/object"
)

// export is a global that others may import: its number in the program, and its arity.
type export struct {
	number, arity int
}

// Objects makes a program of objects. It shares nothing with them.
//
// All objects are asked for one fault ahead of the next, since a fault counts
// ahead of those that the document names behind it, whichever object has it.
func Objects(l []api.Object, entry string) (machine.Program, error) {
	if len(l) > api.MaxModules {
		return machine.Program{}, fault.Big
	}
	if err := unsound(l); err != nil {
		return machine.Program{}, err
	}
	exports, err := exportsOf(l)
	if err != nil {
		return machine.Program{}, err
	}
	if err := wrongImport(l, exports); err != nil {
		return machine.Program{}, err
	}
	first, is := exports[entry]
	if !is || first.arity != 0 {
		return machine.Program{}, fault.Entry
	}
	if instructions(l) > api.MaxImage {
		return machine.Program{}, fault.Big
	}
	return machine.Program{Globals: globalsOf(l, exports), Entry: first.number}, nil
}

// unsound is the fault of the first object that is not sound.
func unsound(l []api.Object) error {
	for k, o := range l {
		if object.Check(o) != nil {
			return fault.At(fault.Value, k)
		}
	}
	return nil
}

// exportsOf numbers the globals of all objects in a row, and gives those that are exported.
func exportsOf(l []api.Object) (map[string]export, error) {
	exports := map[string]export{}
	number := 0
	for k, o := range l {
		for _, g := range o.Globals {
			if _, is := exports[g.Name]; is && g.Export {
				return nil, fault.At(fault.Twice, k)
			}
			if g.Export {
				exports[g.Name] = export{number, g.Arity}
			}
			number++
		}
	}
	return exports, nil
}

// wrongImport is the fault of the first object that imports what none
// exports; and if there is none, of the first one that has another arity.
func wrongImport(l []api.Object, exports map[string]export) error {
	for k, o := range l {
		for _, i := range o.Imports {
			if _, is := exports[i.Name]; !is {
				return fault.At(fault.Missing, k)
			}
		}
	}
	for k, o := range l {
		for _, i := range o.Imports {
			if exports[i.Name].arity != i.Arity {
				return fault.At(fault.Arity, k)
			}
		}
	}
	return nil
}

// instructions is how many all objects have together.
func instructions(l []api.Object) int {
	n := 0
	for _, o := range l {
		for _, g := range o.Globals {
			n += len(g.Code)
		}
	}
	return n
}

// globalsOf gives the globals of all objects in a row, as exportsOf numbers them.
func globalsOf(l []api.Object, exports map[string]export) []machine.Global {
	var all []machine.Global
	for _, o := range l {
		numbers := numbersOf(o, len(all), exports)
		for _, g := range o.Globals {
			all = append(all, machine.Global{Arity: g.Arity, Code: codeOf(g.Code, numbers)})
		}
	}
	return all
}

// numbersOf gives for each number that an object has for a global the one
// that the program has; the object's own ones begin at first there.
func numbersOf(o api.Object, first int, exports map[string]export) []int {
	var numbers []int
	for _, i := range o.Imports {
		numbers = append(numbers, exports[i.Name].number)
	}
	for k := range o.Globals {
		numbers = append(numbers, first+k)
	}
	return numbers
}

func codeOf(code []api.Ins, numbers []int) []machine.Ins {
	out := make([]machine.Ins, len(code))
	for k, i := range code {
		if i.Op == api.Glob {
			i.A = numbers[i.A]
		}
		out[k] = machine.Ins{Op: i.Op, A: i.A, Alts: altsOf(i.Alts)}
	}
	return out
}

func altsOf(l []api.Alt) []machine.Alt {
	out := make([]machine.Alt, len(l))
	for k, a := range l {
		out[k] = machine.Alt{Tag: uint8(a.Tag), To: uint16(a.To)}
	}
	return out
}
