package objfile

import (
	"tarn/api"
	"tarn/fault"
	"tarn/object"
)

// maxVarint is how many bytes a varint has at most: the last of so many may only be 1.
const maxVarint = 10

// reader goes through a file's bytes but for its sum, from the front: the
// first fault that it meets is the one to tell.
type reader struct {
	body string
	at   int
}

// short is the fault of bytes that end too early: told at their end, wherever they were missed.
func (r *reader) short() error { return fault.At(fault.Short, len(r.body)) }

func (r *reader) mark() error {
	for r.at < len(mark) {
		if r.body[r.at] != mark[r.at] {
			return fault.At(fault.Form, r.at)
		}
		r.at++
	}
	return nil
}

// number reads a varint.
func (r *reader) number() (uint64, error) {
	start := r.at
	var x uint64
	for k := range maxVarint {
		if r.at == len(r.body) {
			return 0, r.short()
		}
		b := r.body[r.at]
		r.at++
		x |= uint64(b%128) << (7 * k)
		if b >= 128 {
			continue
		}
		if k > 0 && b == 0 || k == maxVarint-1 && b > 1 {
			break
		}
		return x, nil
	}
	return 0, fault.At(fault.Varint, start)
}

// within reads a number that may be from low to high.
func (r *reader) within(low, high int) (int, error) {
	start := r.at
	x, err := r.number()
	if err != nil {
		return 0, err
	}
	if x < uint64(low) || x > uint64(high) {
		return 0, fault.At(fault.Form, start)
	}
	return int(x), nil
}

func (r *reader) name() (string, error) {
	start := r.at
	n, err := r.number()
	if err != nil {
		return "", err
	}
	if n == 0 || n > object.MaxName {
		return "", fault.At(fault.Name, start)
	}
	if n > uint64(len(r.body)-r.at) {
		return "", r.short()
	}
	s := r.body[r.at : r.at+int(n)]
	if !object.IsName(s) {
		return "", fault.At(fault.Name, start)
	}
	r.at += int(n)
	return s, nil
}

// nameBehind reads a name that must stand behind last, and that no import may have.
func (r *reader) nameBehind(last string, imports []api.Import) (string, error) {
	start := r.at
	s, err := r.name()
	if err != nil {
		return "", err
	}
	if s <= last || object.Imported(imports, s) {
		return "", fault.At(fault.Order, start)
	}
	return s, nil
}
