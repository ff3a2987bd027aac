package tarn

import (
	"errors"

	"tarn/api"
	"tarn/fault"
)

// place tells where a fault is; nothing wrong, and faults without a place, are told at 0.
func place(err error) api.Place {
	var f fault.Fault
	if errors.As(err, &f) {
		return f.Place
	}
	return api.Place{}
}

// kind tells a fault's number.
func kind(err error) api.Errno {
	switch {
	case err == nil:
		return api.OK
	case errors.Is(err, fault.Long):
		return api.ErrLong
	case errors.Is(err, fault.Syntax):
		return api.ErrSyntax
	case errors.Is(err, fault.Deep):
		return api.ErrDeep
	case errors.Is(err, fault.Name):
		return api.ErrName
	case errors.Is(err, fault.Twice):
		return api.ErrTwice
	case errors.Is(err, fault.Short):
		return api.ErrShort
	case errors.Is(err, fault.Sum):
		return api.ErrSum
	case errors.Is(err, fault.Form):
		return api.ErrForm
	case errors.Is(err, fault.Varint):
		return api.ErrVarint
	case errors.Is(err, fault.Order):
		return api.ErrOrder
	case errors.Is(err, fault.More):
		return api.ErrMore
	case errors.Is(err, fault.Index):
		return api.ErrIndex
	case errors.Is(err, fault.Jump):
		return api.ErrJump
	case errors.Is(err, fault.Depth):
		return api.ErrDepth
	case errors.Is(err, fault.Missing):
		return api.ErrMissing
	case errors.Is(err, fault.Arity):
		return api.ErrArity
	case errors.Is(err, fault.Entry):
		return api.ErrEntry
	case errors.Is(err, fault.Big):
		return api.ErrBig
	}
	return api.ErrValue // fault.Value: the one kind that is left
}
