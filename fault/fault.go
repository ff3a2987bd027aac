// Package fault: what can be wrong, as error values that tell their place and wrap their kind.
package fault

import (
	"errors"
	"strconv"

	"tarn/api"
)

// The kinds of wrong, to be asked for with errors.Is.
var (
	Long   = errors.New("longer than may be")
	Syntax = errors.New("no word or bracket that can stand here")
	Deep   = errors.New("within too many others")
	Twice  = errors.New("there already")
	Name   = errors.New("no name, or one that stands for nothing")
	Short  = errors.New("ends too early")
	Sum    = errors.New("not the sum of the bytes ahead of it")
	Form   = errors.New("cannot stand here")
	Varint = errors.New("no varint")
	Order  = errors.New("out of order")
	More   = errors.New("more than there should be")
	Index  = errors.New("no global has this number")
	Jump   = errors.New("goes on where no instruction is")
	Depth  = errors.New("not the depth of stack that is needed")
	Value  = errors.New("not a value that may be")

	Missing = errors.New("imported, and exported by none")
	Arity   = errors.New("imported with another arity than it has")
	Entry   = errors.New("no entry that can be worked out")
	Big     = errors.New("more than an image may have")
)

// Fault: a kind of wrong at its place, to be asked for with errors.As.
type Fault struct {
	Kind  error
	Place api.Place
}

func (f Fault) Error() string {
	return f.Kind.Error() + ": global " + strconv.Itoa(f.Place.Global) + ", at " + strconv.Itoa(f.Place.At)
}

// Unwrap gives the kind, so that errors.Is finds it.
func (f Fault) Unwrap() error { return f.Kind }

// At is a fault at a byte of a text or file, or in the object of this number.
func At(kind error, at int) error {
	return Fault{Kind: kind, Place: api.Place{At: at}}
}

// In is a fault at an instruction of a global.
func In(kind error, global, at int) error {
	return Fault{Kind: kind, Place: api.Place{Global: global, At: at}}
}
