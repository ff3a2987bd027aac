package tarn

import (
	"maps"
	"reflect"
	"slices"
	"strconv"
	"strings"
	"testing"

	"tarn/api"
)

// compiled looks that a text is taken, and that its object is sound, has a
// file that gives it again, and is what the text names; it gives the object.
func compiled(t *testing.T, text string) api.Object {
	t.Helper()
	o, e, at := Compile(text)
	if e != api.OK || at != 0 {
		t.Fatalf("P7: Compile(%.300q) = %d, %d", text, e, at)
	}
	if e, at := Sound(o); e != api.OK {
		t.Errorf("P7: Compile(%.300q) is not sound: %d, %+v", text, e, at)
	}
	file, e := Encode(o)
	if e != api.OK {
		t.Errorf("P7: Compile(%.300q) has no file: %d", text, e)
	}
	if again, e, at := Decode(file); e != api.OK || !reflect.DeepEqual(again, o) {
		t.Errorf("P7: Compile(%.300q): its file gives another object: %d, %+v", text, e, at)
	}
	named(t, text, o)
	return o
}

// named holds the name, imports and exports of an object against the words of its text.
func named(t *testing.T, text string, o api.Object) {
	t.Helper()
	m := nodes(text)[0].in
	imports, defs := map[string]int{}, map[string]int{}
	for _, i := range m[2:] {
		if i.in[0].word == "import" {
			imports[i.in[1].word], _ = strconv.Atoi(i.in[2].word)
		} else {
			defs[i.in[1].word] = len(i.in[2].in)
		}
	}
	if o.Name != m[1].word {
		t.Errorf("P7: Compile(%.300q) has the name %q", text, o.Name)
	}
	var want []api.Import
	for _, n := range slices.Sorted(maps.Keys(imports)) {
		want = append(want, api.Import{Name: n, Arity: imports[n]})
	}
	if !slices.Equal(o.Imports, want) {
		t.Errorf("P7: Compile(%.300q) has the imports %+v", text, o.Imports)
	}
	exports := map[string]int{}
	for _, g := range o.Globals {
		if g.Export {
			exports[g.Name] = g.Arity
		} else if !strings.Contains(g.Name, "#") {
			t.Errorf("P7: Compile(%.300q): %q is no def, and has no #", text, g.Name)
		}
	}
	if !maps.Equal(exports, defs) {
		t.Errorf("P7: Compile(%.300q) has the exports %v, want %v", text, exports, defs)
	}
}

func TestCompileObjects(t *testing.T) {
	for _, s := range []string{
		rich, "(module m)", "(module m (import a 3))", "(module abcdefghij (import z 1) (import a 20) (import m 0) (def y (p q) z) (def b () a))",
		"(module m (def main () (+ 1 2)))", "(module m (def main () (con 1 (+ 1 2) f)) (def f (x) x))", "(module m (def main () (k 1 (/ 1 0))) (def k (x y) x))", "(module m (def main () (case (con 3 4) (2 (x) x))))", "(module m (def main () (1 2)))",
		"(module m (def main () (letrec ((l (con 1 7 l))) (case l (1 (h t) (case t (1 (a b) a)))))))", "(module m (def main () (letrec ((x x)) x)))",
		"(module m (def z (x) x) (def y () 1) (def a () (z (+ y 1))) (def a1 () (z (+ y 1))) (def a0b () (z (+ y 1))))",
	} {
		compiled(t, s)
	}
}

// exprs have each kind of Expr within each other, where it is needed and where it waits.
func exprs() []string {
	around := []string{
		"E", "(x E)", "(E x)", "(con 1 x E)", "(let ((a E)) a)", "(let ((a 1)) E)", "(letrec ((a E)) a)", "(letrec ((a 1)) E)", "(+ E 1)", "(< 1 E)", "(case E (0 () 1) (1 (b c) c))", "(case x (0 () E) (1 (b c) 1))", "(case x (1 (b c) E))", "(case (x 1) (0 () 1) (1 (b c) E) (2 () 2))",
	}
	l := []string{"x", "y", "f", "g", "7"}
	for range 2 {
		var more []string
		for _, a := range around {
			for _, e := range l {
				more = append(more, strings.Replace(a, "E", e, 1))
			}
		}
		l = append(more, "(x y)", "(let ((x y) (y x)) (x y))", "(letrec ((x y) (y x)) (con 0 x y))", "(case y (0 () x) (1 (x) x))")
	}
	return l
}

// TestCompileExprs: alone; where they wait, as an arg; and where they are needed.
func TestCompileExprs(t *testing.T) {
	for _, e := range exprs() {
		compiled(t, "(module m (import g 2) (def f (x y) "+e+"))")
		compiled(t, "(module m (import g 2) (def f (x y) (x "+e+" "+e+")))")
		compiled(t, "(module m (import g 2) (def f (x y) (- "+e+" (* 2 "+e+"))))")
	}
}

// filled is a text of MaxText bytes at most, with as many pieces in its midst as there is room for.
func filled(ahead, piece, behind string) string {
	return ahead + strings.Repeat(piece, (api.MaxText-len(ahead)-len(behind))/len(piece)) + behind
}

// TestCompileLimits: texts as long as may be whose objects are near the limits of objects.
func TestCompileLimits(t *testing.T) {
	l := letters(api.MaxArity)
	chain := strings.Repeat("(a(+ 1", 14) + "(" + l + ")" + strings.Repeat("))", 14)
	for _, s := range []string{
		// cells on the stack
		filled("(module m(def f()(f", " 1", ")))"), filled("(module m(def f("+l+")(f", " a", ")))"), filled("(module m(def f("+l+")(f(+ 1("+l+"))", "1 ", ")))"), filled("(module m(def f("+l+")(+ 1(f(case 1(0()("+l+")))", "1 ", "))))"),
		filled("(module m(def f()(con 0 1 1 1 1(f(con 0 1 1 1(+ 1(f", " f", ")))))))"), filled("(module m(def f()"+strings.Repeat("(f(+ 1", 14)+"(f", " 1", ")"+strings.Repeat("))", 14)+"))"), filled("(module m(def f()(let((x(f", " 1", ")))(case(x x)(0(a b c)(x a b c))))))"),
		// globals, and what is handed to them
		filled("(module m(def f("+l+")(f", chain, ")))"), filled("(module m(def abcdefghij(x)(x", "(+ x x)", ")))"), filled("(module m(def f()(f", "(+ 1 1)", ")))"), filled("(module m(def f()(f", "(letrec((x x)(y y))1)", ")))"), filled("(module m(def f(x)(f", "(case x(0()1))", ")))"),
		// instructions
		filled("(module m(def f()(f", " -9223372036854775808", ")))"), filled("(module m(def f()(f", " 64", ")))"), filled("(module m(def f("+l+")(f", "(con 255 t)", ")))"),
	} {
		compiled(t, s)
	}
}

// TestCompileManyBranches: a case of all tags, and the Alts in their order.
func TestCompileManyBranches(t *testing.T) {
	s := "(module m(def f()(case 1"
	for k := range 256 {
		s += "(" + strconv.Itoa(255-k) + "()1)"
	}
	o := compiled(t, s+")))")
	for _, i := range o.Globals[0].Code {
		if i.Op == api.Case && len(i.Alts) != 256 {
			t.Errorf("P7: %d Alts", len(i.Alts))
		}
	}
}

// TestCompileManyDefs: as many as there is room for.
func TestCompileManyDefs(t *testing.T) {
	s := "(module m"
	for k := 0; len(s) < api.MaxText-30; k++ {
		s += "(def d" + strconv.Itoa(k) + "()(d0(+ 1 1)))"
	}
	compiled(t, s+")")
	s = "(module m"
	for k := 0; len(s) < api.MaxText-50; k++ {
		s += "(import i" + strconv.Itoa(k) + " 0)"
	}
	compiled(t, s+"(def f(x)(i9(+ x i11)i10)))")
}

// TestCompileArity: defs of each arity.
func TestCompileArity(t *testing.T) {
	for n := range api.MaxArity + 1 {
		l := letters(n)
		o := compiled(t, "(module m (def f ("+l+") (f (+ f (f "+l+" 1)) "+l+")))")
		if o.Globals[0].Arity != n || o.Globals[1].Arity != n {
			t.Errorf("P7: %d params: %+v", n, o.Globals)
		}
	}
}

// TestCompileAgain: the same text gives the same object.
func TestCompileAgain(t *testing.T) {
	want := compiled(t, rich)
	for range 20 {
		if got := compiled(t, rich); !reflect.DeepEqual(got, want) {
			t.Fatalf("P7: %+v, and then %+v", want, got)
		}
	}
}
