package object

import "tarn/api"

// Kind: what an instruction has beside its Op.
type Kind int

const (
	Bare   Kind = iota // nothing
	Whole              // A, any number
	Bound              // A, from a least to a most
	Forked             // Alts
)

// The most of what the document bounds by numbers of its own.
const (
	MaxTag   = 255
	MaxTo    = 65535
	MaxCode  = 65535
	MaxAlts  = 256
	maxIndex = 65535
	maxParts = 255
	// A of Pack is a tag times this, and how many fields there are.
	packTag = 256
)

// row is a line of the document's table of instructions. What an instruction
// needs is need and needEach times its amount; d grows by more and moreEach
// times its amount.
type row struct {
	kind           Kind
	least, most    int
	need, needEach int
	more, moreEach int
}

var rows = [...]row{
	api.Int:    {kind: Whole, more: 1},
	api.Glob:   {kind: Bound, most: maxIndex, more: 1},
	api.Push:   {kind: Bound, most: api.MaxStack, need: 1, needEach: 1, more: 1},
	api.Ap:     {need: 2, more: -1},
	api.Slide:  {kind: Bound, most: api.MaxStack, need: 1, needEach: 1, moreEach: -1},
	api.Update: {kind: Bound, most: api.MaxStack, need: 2, needEach: 1, more: -1},
	api.Pop:    {kind: Bound, most: api.MaxStack, needEach: 1, moreEach: -1},
	api.Alloc:  {kind: Bound, least: 1, most: api.MaxStack, moreEach: 1},
	api.Eval:   {need: 1},
	api.Add:    {need: 2, more: -1},
	api.Sub:    {need: 2, more: -1},
	api.Mul:    {need: 2, more: -1},
	api.Div:    {need: 2, more: -1},
	api.Same:   {need: 2, more: -1},
	api.Less:   {need: 2, more: -1},
	api.Pack:   {kind: Bound, most: MaxTag*packTag + maxParts, needEach: 1, more: 1, moreEach: -1},
	api.Split:  {kind: Bound, most: maxParts, need: 1, more: -1, moreEach: 1},
	api.Case:   {kind: Forked, need: 1},
	api.Jump:   {kind: Bound, most: MaxTo},
	api.Unwind: {need: 1},
	api.Fail:   {},
}

// IsOp: whether this is the Op of an instruction.
func IsOp(op int) bool { return 0 <= op && op < len(rows) }

// KindOf tells what an instruction with this Op has beside it.
func KindOf(op int) Kind { return rows[op].kind }

// Bounds tells the least and the most that A may be, of an Op whose kind is Bound.
func Bounds(op int) (int, int) { return rows[op].least, rows[op].most }

// PackOf is A of the Pack that makes a record with this tag and so many fields.
func PackOf(tag, fields int) int { return tag*packTag + fields }

// PackParts tells the tag and how many fields the record has that a Pack with this A makes.
func PackParts(a int) (tag, fields int) { return a / packTag, a % packTag }

// amount is what the needs of an instruction are counted by.
func amount(i api.Ins) int {
	if i.Op == api.Pack {
		_, fields := PackParts(i.A)
		return fields
	}
	return i.A
}

// fits: whether the instruction may be done with d cells, and leaves no more than MaxStack.
func fits(i api.Ins, d int) bool {
	if i.Op == api.Unwind {
		return d == rows[i.Op].need
	}
	return d >= rows[i.Op].need+rows[i.Op].needEach*amount(i) && Behind(i, d) <= api.MaxStack
}

// Behind is how many cells there are behind an instruction that was done with d.
func Behind(i api.Ins, d int) int {
	return d + rows[i.Op].more + rows[i.Op].moreEach*amount(i)
}

// ends: whether the code never goes on right behind an instruction with this Op.
func ends(op int) bool {
	return op == api.Case || op == api.Jump || op == api.Unwind || op == api.Fail
}
