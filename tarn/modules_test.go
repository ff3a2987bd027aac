package tarn

import (
	"slices"
	"strconv"
	"strings"
	"testing"

	"tarn/api"
)

// importOf is the import of a def, which is written with one blank ahead of its params.
func importOf(def string) string {
	name, rest, _ := strings.Cut(strings.TrimPrefix(def, "(def "), " (")
	params, _, _ := strings.Cut(rest, ")")
	return "(import " + name + " " + strconv.Itoa(len(strings.Fields(params))) + ")"
}

// inOne is a module of all these defs.
func inOne(defs []string) string { return "(module m " + strings.Join(defs, " ") + ")" }

// apart puts each def into the module with the number that where has for it;
// each module imports the defs of all the others.
func apart(defs []string, where []int) []string {
	var texts []string
	for k := range slices.Max(where) + 1 {
		var own, others string
		for n, d := range defs {
			if where[n] == k {
				own += d
			} else {
				others += importOf(d)
			}
		}
		texts = append(texts, "(module m"+strconv.Itoa(k)+" "+others+own+")")
	}
	return texts
}

// ways are all ways to put n defs into so many modules.
func ways(n, modules int) [][]int {
	if n == 0 {
		return [][]int{nil}
	}
	var l [][]int
	for _, w := range ways(n-1, modules) {
		for k := range modules {
			l = append(l, append(slices.Clone(w), k))
		}
	}
	return l
}

// program is the defs of a module, and what main comes to with so many moves.
type program struct {
	kind  int
	text  string
	moves int
	defs  []string
}

func programs() []program {
	return []program{
		{api.OfValue, "(0)", 26, []string{"(def main () (even 5))", "(def even (n) (case (= n zero) (1 () (= 0 0)) (0 () (odd (- n 1)))))", "(def odd (n) (case (= n zero) (1 () (= 0 1)) (0 () (even (- n 1)))))", "(def zero () 0)"}},
		{api.OfValue, "(1 3 (1 7 (1 15 (0))))", 25, []string{"(def main () (map (add 1) list))", "(def add (x y) (+ x (twice y)))", "(def twice (x) (+ x x))", "(def map (f l) (case l (0 () l) (1 (h t) (con 1 (f h) (map f t)))))", "(def list () (con 1 1 (con 1 three (con 1 (+ three (+ 1 three)) (con 0)))))", "(def three () 3)"}},
		{api.OfValue, "(9 fun fun 2)", 5, []string{"(def main () (con 9 k (k 1) (sub pair)))", "(def k (x y) x)", "(def pair () (con 0 5 3))", "(def sub (p) (case p (0 (x k) (- x k))))"}},
		{api.OfValue, "(0 0 1 2 3)", 7, []string{"(def main () (let ((f 1) (x 0)) (g f x)))", "(def f (x) (+ x 1))", "(def g (a b) (con 0 b a (f a) x))", "(def x () (f 2))"}},
		{api.OfKind, "", 5, []string{"(def main () (+ one (f one)))", "(def one () 1)", "(def f (x) (case (= x one) (1 () f)))"}},
		{api.OfMatch, "", 3, []string{"(def main () (con 1 (f 1)))", "(def f (x) (case none (1 () x)))", "(def none () (con 0))"}},
		{api.OfApply, "", 4, []string{"(def main () (f five five))", "(def f (x) (id x))", "(def id (x) x)", "(def five () 5)"}},
		{api.OfZero, "", 4, []string{"(def main () (k (div 1) loop zero))", "(def k (x y) x)", "(def div (x y) (/ x y))", "(def loop () loop)", "(def zero () 0)"}},
	}
}

// TestModulesMeanTheSame: the same defs, in one module and in several, in all ways.
func TestModulesMeanTheSame(t *testing.T) {
	for _, p := range programs() {
		means(t, p.kind, p.text, p.moves, inOne(p.defs))
		for _, where := range ways(len(p.defs), 3) {
			texts := apart(p.defs, where)
			got := image(t, texts...).Run(api.MaxFuel, api.MaxCells)
			if got.Kind != p.kind || got.Text != p.text {
				t.Errorf("P11: %s: %+v, want %d, %q", texts, got, p.kind, p.text)
			}
		}
	}
}

// TestModulesOfOneDef: each def in a module of its own, in every place among them.
func TestModulesOfOneDef(t *testing.T) {
	for _, p := range programs() {
		var where []int
		for k := range p.defs {
			where = append(where, k)
		}
		texts := apart(p.defs, where)
		for k := range texts {
			means(t, p.kind, p.text, p.moves, append(slices.Clone(texts[k:]), texts[:k]...)...)
		}
		for len(texts) < api.MaxModules {
			texts = append(texts, "(module m"+strconv.Itoa(len(texts))+")")
		}
		means(t, p.kind, p.text, p.moves, texts...)
	}
}

// TestModulesThatNeverEnd: nor do they in several modules.
func TestModulesThatNeverEnd(t *testing.T) {
	for _, defs := range [][]string{
		{"(def main () loop)", "(def loop () loop)"}, {"(def main () (f 1))", "(def f (n) (g (+ n 1)))", "(def g (n) (f n))"}, {"(def main () a)", "(def a () b)", "(def b () a)"}, {"(def main () (con 0 (+ 1 a)))", "(def a () (case b (0 (x) x)))", "(def b () (con 0 (+ 1 a)))"},
	} {
		for _, where := range ways(len(defs), 2) {
			if got := image(t, apart(defs, where)...).Run(50000, 50000); got.Kind != api.OfFuel && got.Kind != api.OfCells {
				t.Errorf("P11: %s in %d: %+v", defs, where, got)
			}
		}
	}
}

// TestModulesKeep: a def without params of another module is worked out once, too.
func TestModulesKeep(t *testing.T) {
	steps := func(main, user string) int {
		return image(t, "(module a (import slow 0) (import user 1) (def main () "+main+"))", "(module b (import slow 0) (def user (x) "+user+"))", "(module c (def slow () (count 40)) (def count (n) (case (= n 0) (1 () 1) (0 () (count (- n 1))))))").Run(api.MaxFuel, api.MaxCells).Steps
	}
	if once, often := steps("(user slow)", "x"), steps("(+ slow (+ (user slow) (user 1)))", "(+ slow (+ x slow))"); often > once+150 {
		t.Errorf("P11: %d steps, with more uses %d", once, often)
	}
}

// TestModulesHide: an import is hidden by a param, and by a name of a let, letrec or branch, as a def is.
func TestModulesHide(t *testing.T) {
	defs := []string{"(def main () (con 0 (f 1) g (h (con 0 2)) x y))", "(def f (x) (let ((y (+ x 10))) (con 1 x y)))", "(def g () (letrec ((x (con 2 y)) (y 3)) x))", "(def h (r) (case r (0 (y) (con 3 x y))))", "(def x () 4)", "(def y () 5)"}
	for _, where := range ways(len(defs), 2) {
		means(t, api.OfValue, "(0 (1 1 11) (2 3) (3 4 2) 4 5)", 8, apart(defs, where)...)
	}
}
