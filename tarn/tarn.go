// Package tarn: a small lazy language, compiled module by module, linked, and run on graphs: see DOC.md.
package tarn

import (
	"tarn/api"
	"tarn/compile"
	"tarn/link"
	"tarn/machine"
	"tarn/object"
	"tarn/objfile"
	"tarn/syntax"
)

// Image: modules that were linked.
type Image struct {
	program machine.Program
}

// Check looks at a module's text (P6).
func Check(text string) (api.Errno, int) {
	_, err := syntax.Read(text)
	return kind(err), place(err).At
}

// Compile makes an object of a module's text (P7).
func Compile(text string) (api.Object, api.Errno, int) {
	m, err := syntax.Read(text)
	if err != nil {
		return api.Object{}, kind(err), place(err).At
	}
	return compile.Module(m), api.OK, 0
}

// Sound looks at an object (P3).
func Sound(o api.Object) (api.Errno, api.Place) {
	err := object.Check(o)
	return kind(err), place(err)
}

// Encode makes an object's file (P4).
func Encode(o api.Object) (string, api.Errno) {
	s, err := objfile.Encode(o)
	return s, kind(err)
}

// Decode reads an object's file (P5).
func Decode(file string) (api.Object, api.Errno, api.Place) {
	o, err := objfile.Decode(file)
	return o, kind(err), place(err)
}

// Link makes an image (P8).
func Link(l []api.Object, entry string) (*Image, api.Errno, int) {
	p, err := link.Objects(l, entry)
	if err != nil {
		return nil, kind(err), place(err).At
	}
	return &Image{program: p}, api.OK, 0
}

// Run works out what the entry means (P9).
func (i *Image) Run(fuel int, cells int) api.Outcome {
	return i.program.Run(fuel, cells)
}
