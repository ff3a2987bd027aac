package tarn

import (
	"encoding/binary"
	"hash/crc32"
	"slices"
	"strconv"
	"strings"

	"tarn/api"
)

func ins(op, a int) api.Ins { return api.Ins{Op: op, A: a} }

// fork is a Case that goes to these places, with the tags 0, 1 ..
func fork(to ...int) api.Ins {
	i := api.Ins{Op: api.Case}
	for tag, x := range to {
		i.Alts = append(i.Alts, api.Alt{Tag: tag, To: x})
	}
	return i
}

// times is the same instruction n times.
func times(n int, i api.Ins) []api.Ins {
	l := make([]api.Ins, n)
	for k := range l {
		l[k] = i
	}
	return l
}

// code is a list of lists, in one.
func code(l ...[]api.Ins) []api.Ins {
	var all []api.Ins
	for _, x := range l {
		all = append(all, x...)
	}
	return all
}

// one is the object m with one global main, exported.
func one(arity int, code ...api.Ins) api.Object {
	return api.Object{Name: "m", Globals: []api.Global{{Name: "main", Arity: arity, Export: true, Code: code}}}
}

// seal puts the sum behind the bytes of a file.
func seal(body string) string {
	return string(binary.LittleEndian.AppendUint32([]byte(body), crc32.ChecksumIEEE([]byte(body))))
}

// number is a varint.
func number(x uint64) string { return string(binary.AppendUvarint(nil, x)) }

// whole is a sound object with every Op, imports and several globals.
func whole() api.Object {
	return api.Object{
		Name:    "whole#1",
		Imports: []api.Import{{Name: "dep", Arity: 20}, {Name: "dep#"}, {Name: "dep0", Arity: 1}},
		Globals: []api.Global{
			{Name: "a", Code: []api.Ins{ins(api.Glob, 4), ins(api.Update, 0), ins(api.Unwind, 0)}},
			{Name: "abcdefghijklmnop", Arity: 2, Export: true, Code: []api.Ins{
				ins(api.Int, -300), ins(api.Push, 1), ins(api.Eval, 0), ins(api.Add, 0),
				ins(api.Int, 1<<63-1), ins(api.Sub, 0), ins(api.Int, -1<<63), ins(api.Mul, 0),
				ins(api.Int, 2), ins(api.Div, 0), ins(api.Int, 3), ins(api.Same, 0), ins(api.Int, 4), ins(api.Less, 0),
				{Op: api.Case, Alts: []api.Alt{{Tag: 1, To: 15}, {Tag: 255, To: 16}, {Tag: 0, To: 25}}},
				ins(api.Jump, 16),
				ins(api.Glob, 5), ins(api.Ap, 0), ins(api.Alloc, 2), ins(api.Slide, 1), ins(api.Pack, 255*256+2),
				ins(api.Split, 1), ins(api.Update, 2), ins(api.Pop, 2), ins(api.Unwind, 0),
				ins(api.Fail, 0),
			}},
			{Name: "z", Arity: 20, Export: true, Code: []api.Ins{ins(api.Fail, 0)}},
		},
	}
}

// wholeBody is the file of whole but for its sum, written by hand.
func wholeBody() string {
	return "TARN\x07whole#1" + "\x03\x03dep\x14\x04dep#\x00\x04dep0\x01" + "\x03" +
		"\x01a\x00\x00\x03" + "\x01\x04" + "\x05\x00" + "\x13" +
		"\x10abcdefghijklmnop\x02\x01\x1a" +
		"\x00\xd7\x04" + "\x02\x01" + "\x08" + "\x09" +
		"\x00\xfe\xff\xff\xff\xff\xff\xff\xff\xff\x01" + "\x0a" + "\x00\xff\xff\xff\xff\xff\xff\xff\xff\xff\x01" + "\x0b" +
		"\x00\x04" + "\x0c" + "\x00\x06" + "\x0d" + "\x00\x08" + "\x0e" +
		"\x11\x03\x01\x0f\xff\x01\x10\x00\x19" +
		"\x12\x10" +
		"\x01\x05" + "\x03" + "\x07\x02" + "\x04\x01" + "\x0f\x82\xfe\x03" +
		"\x10\x01" + "\x05\x02" + "\x06\x02" + "\x13" +
		"\x14" +
		"\x01z\x14\x01\x01\x14"
}

// asm is code written as text: instructions by their names, each with its A if
// that is not 0, or with its Alts (tag:to), one behind the other.
func asm(text string) []api.Ins {
	names := strings.Fields("Int Glob Push Ap Slide Update Pop Alloc Eval Add Sub Mul Div Same Less Pack Split Case Jump Unwind Fail")
	var l []api.Ins
	for _, w := range strings.Fields(text) {
		tag, to, isAlt := strings.Cut(w, ":")
		op := slices.Index(names, w)
		switch a, err := strconv.Atoi(tag); {
		case isAlt:
			place, _ := strconv.Atoi(to)
			l[len(l)-1].Alts = append(l[len(l)-1].Alts, api.Alt{Tag: a, To: place})
		case err == nil:
			l[len(l)-1].A = a
		case op < 0:
			panic("no instruction: " + w)
		default:
			l = append(l, ins(op, 0))
		}
	}
	return l
}

// module is an object of globals, each written as its name, arity and code; a
// name with a ! behind it is exported. They are put in order.
func module(name string, imports []api.Import, globals ...string) api.Object {
	o := api.Object{Name: name, Imports: imports}
	for _, g := range globals {
		w := strings.SplitN(g, " ", 3)
		arity, _ := strconv.Atoi(w[1])
		n, export := strings.CutSuffix(w[0], "!")
		o.Globals = append(o.Globals, api.Global{Name: n, Arity: arity, Export: export, Code: asm(w[2])})
	}
	slices.SortFunc(o.Globals, func(a, b api.Global) int { return strings.Compare(a.Name, b.Name) })
	return o
}
