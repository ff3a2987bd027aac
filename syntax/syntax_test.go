package syntax

import (
	"errors"
	"reflect"
	"strings"
	"testing"

	"tarn/api"
	"tarn/fault"
)

func TestCut(t *testing.T) {
	for text, want := range map[string][]word{
		"":              {{"", 0}},
		" \n ":          {{"", 3}},
		"a":             {{"a", 0}, {"", 1}},
		"(":             {{"(", 0}, {"", 1}},
		"(ab)c d":       {{"(", 0}, {"ab", 1}, {")", 3}, {"c", 4}, {"d", 6}, {"", 7}},
		"\n((\t\xff x)": {{"(", 1}, {"(", 2}, {"\t\xff", 3}, {"x", 6}, {")", 7}, {"", 8}},
	} {
		if got := cut(text); !reflect.DeepEqual(got, want) {
			t.Errorf("cut(%q) = %v, want %v", text, got, want)
		}
	}
}

// TestRead: a tree with an Expr of each kind.
func TestRead(t *testing.T) {
	m, err := Read("(module m (import i 2) (def f (x y) (let ((a -1)) (letrec ((b i)) (case (x 1 y) (0 () (con 3 a)) (2 (p q) (< b f)))))))")
	want := Module{
		Name:    "m",
		Imports: []Import{{Name{"i", 18}, 2}},
		Defs: []Def{{Name{"f", 28}, Names{{"x", 31}, {"y", 33}}, Let{
			Names: Names{{"a", 43}}, Exprs: []Expr{Number{-1}},
			Body: Let{
				Rec: true, Names: Names{{"b", 60}}, Exprs: []Expr{Name{"i", 62}},
				Body: Case{Call{Name{"x", 73}, []Expr{Number{1}, Name{"y", 77}}}, []Branch{
					{0, nil, Con{3, []Expr{Name{"a", 93}}}},
					{2, Names{{"p", 101}, {"q", 103}}, Op{api.Less, Name{"b", 109}, Name{"f", 111}}},
				}},
			},
		}}},
	}
	if err != nil || !reflect.DeepEqual(m, want) {
		t.Errorf("%+v, %v, want %+v", m, err, want)
	}
}

// TestParts: which names become known in which part.
func TestParts(t *testing.T) {
	l := Names{{"a", 1}, {"b", 2}}
	for _, c := range []struct {
		e    Expr
		want []Part
	}{
		{Number{1}, nil}, {Name{"a", 1}, nil},
		{Call{Number{1}, []Expr{Number{2}, Number{3}}}, []Part{{Number{1}, nil}, {Number{2}, nil}, {Number{3}, nil}}},
		{Let{false, l, []Expr{Number{1}, Number{2}}, Number{3}}, []Part{{Number{1}, nil}, {Number{2}, nil}, {Number{3}, l}}},
		{Let{true, l, []Expr{Number{1}, Number{2}}, Number{3}}, []Part{{Number{1}, l}, {Number{2}, l}, {Number{3}, l}}},
		{Con{0, []Expr{Number{1}, Number{2}}}, []Part{{Number{1}, nil}, {Number{2}, nil}}},
		{Case{Number{1}, []Branch{{0, nil, Number{2}}, {1, l, Number{3}}}}, []Part{{Number{1}, nil}, {Number{2}, nil}, {Number{3}, l}}},
		{Op{api.Add, Number{1}, Number{2}}, []Part{{Number{1}, nil}, {Number{2}, nil}}},
	} {
		if got := c.e.Parts(); !reflect.DeepEqual(got, c.want) {
			t.Errorf("the parts of %+v are %+v, want %+v", c.e, got, c.want)
		}
	}
}

// TestFaults: what is wrong wraps its kind, tells its place, and comes alone.
func TestFaults(t *testing.T) {
	for text, kind := range map[string]error{
		strings.Repeat(" ", api.MaxText+1): fault.Long, "(module m": fault.Syntax, "(module m (def f (x x) 1))": fault.Twice, "(module m (def f () x))": fault.Name, "(module m (def f () " + strings.Repeat("(f ", api.MaxNest+1): fault.Deep,
	} {
		m, err := Read(text)
		var f fault.Fault
		if !errors.Is(err, kind) || !errors.As(err, &f) {
			t.Errorf("%.60q: %v", text, err)
		}
		if !reflect.DeepEqual(m, Module{}) {
			t.Errorf("%.60q: %+v beside an error", text, m)
		}
	}
}
