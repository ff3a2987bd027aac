package object

import (
	"testing"

	"tarn/api"
)

func TestEveryOpHasItsRow(t *testing.T) {
	for op := api.Int; op <= api.Fail; op++ {
		if !IsOp(op) {
			t.Errorf("%d is an Op", op)
		}
	}
	if IsOp(api.Int-1) || IsOp(api.Fail+1) {
		t.Error("there are more Ops than there should be")
	}
}

func TestKinds(t *testing.T) {
	for op, want := range map[int]Kind{
		api.Int: Whole, api.Glob: Bound, api.Push: Bound, api.Ap: Bare, api.Slide: Bound, api.Update: Bound, api.Pop: Bound,
		api.Alloc: Bound, api.Eval: Bare, api.Add: Bare, api.Sub: Bare, api.Mul: Bare, api.Div: Bare, api.Same: Bare,
		api.Less: Bare, api.Pack: Bound, api.Split: Bound, api.Case: Forked, api.Jump: Bound, api.Unwind: Bare, api.Fail: Bare,
	} {
		if got := KindOf(op); got != want {
			t.Errorf("the kind of Op %d is %d, want %d", op, got, want)
		}
	}
}

func TestBounds(t *testing.T) {
	for op, want := range map[int][2]int{
		api.Glob: {0, 65535}, api.Push: {0, 1000}, api.Slide: {0, 1000}, api.Update: {0, 1000}, api.Pop: {0, 1000},
		api.Alloc: {1, 1000}, api.Pack: {0, 65535}, api.Split: {0, 255}, api.Jump: {0, 65535},
	} {
		if least, most := Bounds(op); least != want[0] || most != want[1] {
			t.Errorf("the bounds of Op %d are %d and %d, want %d and %d", op, least, most, want[0], want[1])
		}
	}
}

func TestPackOf(t *testing.T) {
	for _, c := range [][3]int{{0, 0, 0}, {0, 20, 20}, {1, 0, 256}, {255, 255, 65535}} {
		if got := PackOf(c[0], c[1]); got != c[2] {
			t.Errorf("PackOf(%d, %d) = %d, want %d", c[0], c[1], got, c[2])
		}
		if tag, fields := PackParts(c[2]); tag != c[0] || fields != c[1] {
			t.Errorf("PackParts(%d) = %d, %d, want %d, %d", c[2], tag, fields, c[0], c[1])
		}
	}
}
