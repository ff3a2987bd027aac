// Package syntax: the text of a module: how it is cut, what may stand in it, and whether its names stand for something.
package syntax

import "slices"

// Module is what a text says.
type Module struct {
	Name    string
	Imports []Import
	Defs    []Def
}

// Import is a name that another module has.
type Import struct {
	Name  Name
	Arity int
}

// Def is a name that this module has.
type Def struct {
	Name   Name
	Params Names
	Body   Expr
}

// Name is a name and its place in the text: where it is made known, or an Expr.
type Name struct {
	Text string
	At   int
}

// Names are names that become known together.
type Names []Name

// Has: whether one of the names has this text.
func (l Names) Has(text string) bool {
	return slices.ContainsFunc(l, func(n Name) bool { return n.Text == text })
}

// Expr is a Number, Name, Call, Let, Con, Case or Op.
type Expr interface {
	// Parts gives the Exprs that stand in this one.
	Parts() []Part
}

// Part is an Expr in another one, with the names that become known in it.
type Part struct {
	Expr  Expr
	Names Names
}

// Number stands for itself.
type Number struct {
	Value int
}

// Call gives one or more args to a function.
type Call struct {
	Func Expr
	Args []Expr
}

// Let is a let or (Rec) a letrec.
type Let struct {
	Rec   bool
	Names Names
	Exprs []Expr // what the names stand for, one by one
	Body  Expr
}

// Con makes a record.
type Con struct {
	Tag    int
	Fields []Expr
}

// Case takes a record apart.
type Case struct {
	Expr     Expr
	Branches []Branch
}

// Branch is what a case does with records of one tag.
type Branch struct {
	Tag   int
	Names Names
	Body  Expr
}

// Op is done by the instruction of its number.
type Op struct {
	Op          int
	Left, Right Expr
}

func (Number) Parts() []Part { return nil }

func (Name) Parts() []Part { return nil }

func (c Call) Parts() []Part { return bare(append([]Expr{c.Func}, c.Args...)) }

func (l Let) Parts() []Part {
	parts := bare(l.Exprs)
	for k := range parts {
		if l.Rec {
			parts[k].Names = l.Names
		}
	}
	return append(parts, Part{l.Body, l.Names})
}

func (c Con) Parts() []Part { return bare(c.Fields) }

func (c Case) Parts() []Part {
	parts := bare([]Expr{c.Expr})
	for _, b := range c.Branches {
		parts = append(parts, Part{b.Body, b.Names})
	}
	return parts
}

func (o Op) Parts() []Part { return bare([]Expr{o.Left, o.Right}) }

// bare gives Exprs in which no names become known.
func bare(l []Expr) []Part {
	var parts []Part
	for _, e := range l {
		parts = append(parts, Part{Expr: e})
	}
	return parts
}
