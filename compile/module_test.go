package compile

import (
	"strconv"
	"strings"
	"testing"

	"tarn/api"
	"tarn/link"
	"tarn/object"
	"tarn/syntax"
)

// made reads and compiles texts, and looks that the objects are sound.
func made(t *testing.T, texts []string) ([]syntax.Module, []api.Object) {
	t.Helper()
	var modules []syntax.Module
	var objects []api.Object
	for _, s := range texts {
		m, err := syntax.Read(s)
		if err != nil {
			t.Fatalf("%s: %v", s, err)
		}
		o := Module(m)
		if err := object.Check(o); err != nil {
			t.Fatalf("%s: %v:\n%s", s, err, listing(o))
		}
		modules, objects = append(modules, m), append(objects, o)
	}
	return modules, objects
}

// listing is a global's code as text, for the tests to tell.
func listing(o api.Object) string {
	names := strings.Fields("Int Glob Push Ap Slide Update Pop Alloc Eval Add Sub Mul Div Same Less Pack Split Case Jump Unwind Fail")
	var b strings.Builder
	for _, g := range o.Globals {
		b.WriteString(g.Name + "/" + strconv.Itoa(g.Arity) + ":")
		for _, i := range g.Code {
			b.WriteString(" " + names[i.Op] + " " + strconv.Itoa(i.A))
		}
		b.WriteString("\n")
	}
	return b.String()
}

// run links objects, and tells how main goes.
func run(t *testing.T, fuel int, objects ...api.Object) api.Outcome {
	t.Helper()
	p, err := link.Objects(objects, "main")
	if err != nil {
		t.Fatalf("%v: %+v", err, objects)
	}
	return p.Run(fuel, fuel)
}

// enough is the fuel and the cells with which a run must come to its end (P10).
func enough(moves int, texts []string) int {
	return 40*len(strings.Join(texts, ""))*(moves+1) + 10000
}

// agree looks that the machine tells what the texts mean, with no more steps
// and cells than it may take, and gives how main ends.
func agree(t *testing.T, texts ...string) int {
	t.Helper()
	const most = 3000
	modules, objects := made(t, texts)
	kind, text, moves := means(most, modules...)
	fuel := enough(moves, texts)
	got := run(t, min(fuel, api.MaxFuel), objects...)
	spent := got.Kind == api.OfFuel || got.Kind == api.OfCells
	switch {
	case kind == never && moves > most, kind == api.OfText && spent, fuel > api.MaxFuel && spent:
		// Nothing is promised of these.
	case kind == never:
		if !spent {
			t.Fatalf("%s: nothing should ever come, the machine tells %+v:\n%s", texts, got, listing(objects[0]))
		}
	case got.Kind != kind || got.Text != text:
		t.Fatalf("%s: means %d, %q with %d moves, the machine tells %+v:\n%s", texts, kind, text, moves, got, listing(objects[0]))
	default:
		less(t, got, objects)
	}
	return kind
}

// less looks that with less fuel or fewer cells a run tells the same, FUEL or CELLS.
func less(t *testing.T, want api.Outcome, objects []api.Object) {
	t.Helper()
	p, err := link.Objects(objects, "main")
	if err != nil {
		t.Fatal(err)
	}
	for _, most := range []int{want.Steps - 1, want.Steps / 2, want.Steps / 9, want.Cells - 1, want.Cells / 2} {
		got := p.Run(most, most)
		spent := (got.Kind == api.OfFuel || got.Kind == api.OfCells) && got.Text == ""
		if !spent && got != want {
			t.Fatalf("%+v, but with %d %+v:\n%s", want, most, got, listing(objects[0]))
		}
	}
}

// tells looks that main, the first of these defs, comes to this.
func tells(t *testing.T, expr, defs string, kind int, text string) {
	t.Helper()
	s := "(module m (def main () " + expr + ") " + defs + ")"
	agree(t, s)
	_, objects := made(t, []string{s})
	got := run(t, 100000, objects...)
	if got.Kind != kind || got.Text != text {
		t.Errorf("%s: %+v, want %d, %q:\n%s", s, got, kind, text, listing(objects[0]))
	}
}

func TestValues(t *testing.T) {
	for _, c := range [][3]string{
		{"7", "", "7"}, {"-7", "", "-7"}, {"-9223372036854775808", "", "-9223372036854775808"}, {"(con 3)", "", "(3)"}, {"(con 255 1 (con 0) f)", "(def f (x) x)", "(255 1 (0) fun)"}, {"f", "(def f (x y) x)", "fun"}, {"(f 1)", "(def f (x y) x)", "fun"}, {"main2", "(def main2 () f) (def f (x) x)", "fun"},
		{"(+ 1 2)", "", "3"}, {"(- 1 2)", "", "-1"}, {"(* 3 -4)", "", "-12"}, {"(/ -7 2)", "", "-3"}, {"(/ 7 -2)", "", "-3"}, {"(= 1 1)", "", "(1)"}, {"(= 1 2)", "", "(0)"}, {"(< 1 2)", "", "(1)"}, {"(< 2 1)", "", "(0)"}, {"(< 1 1)", "", "(0)"},
		{"(+ 9223372036854775807 1)", "", "-9223372036854775808"}, {"(* 9223372036854775807 2)", "", "-2"}, {"(- -9223372036854775808 1)", "", "9223372036854775807"}, {"(/ -9223372036854775808 -1)", "", "-9223372036854775808"},
		{"(con 1 (+ 1 2) f)", "(def f (x) x)", "(1 3 fun)"}, {"(k 1 (/ 1 0))", "(def k (x y) x)", "1"}, {"(letrec ((l (con 1 7 l))) (case l (1 (h t) (case t (1 (a b) a)))))", "", "7"},
		// the order of args, fields and params
		{"(f 1 2 3)", "(def f (a b c) (con 9 a b c))", "(9 1 2 3)"}, {"(case (con 0 1 2 3) (0 (a b c) (con 9 c b a)))", "", "(9 3 2 1)"}, {"(- (f 9 4) (f 1 2))", "(def f (a b) (- a b))", "6"}, {"(g (- 9 4) (- 1 2))", "(def g (a b) (- a b))", "6"}, {"(let ((a 1) (b 2) (c 3)) (con 9 a b c))", "", "(9 1 2 3)"}, {"(letrec ((a (con 1 c)) (b 2) (c b)) (con 9 a b c))", "", "(9 (1 2) 2 2)"},
		{"(f 1 2 3)", "(def f (a b c) (k (con 9 (- c a) (- b a) (/ 6 c)) 0)) (def k (x y) x)", "(9 2 1 2)"},
		// fewer args, and args that are over
		{"((f 1) 2)", "(def f (a b) (- a b))", "-1"}, {"(f 1 2)", "(def f (a) (g a)) (def g (a b) (- a b))", "-1"}, {"(i i i i 4)", "(def i (x) x)", "4"}, {"(let ((p (f 1))) (con 0 (p 2) (p 3) p))", "(def f (a b) (- a b))", "(0 -1 -2 fun)"}, {"(g 5)", "(def g () (f 1)) (def f (a b) (- a b))", "-4"}, {"((case (con 0) (0 () f)) 1)", "(def f (x) x)", "1"}, {"((let ((a 1)) (f a)) 2)", "(def f (a b) (- a b))", "-1"}, {"(t t t s 0)", "(def t (f x) (f (f x))) (def s (x) (+ x 1))", "16"},
		// what a name stands for
		{"(let ((x 1)) (let ((x (+ x 1)) (y x)) (con 0 x y)))", "", "(0 2 1)"}, {"(f 1)", "(def f (f) f)", "1"}, {"(let ((f 3)) f)", "(def f () 1)", "3"}, {"(case (con 0 5) (0 (main) main))", "", "5"}, {"(f 2)", "(def f (x) (case (con 0 (+ x 1)) (0 (x) (let ((x (* x 10))) x))))", "30"}, {"(let ((x 1)) (f (let ((x 2)) (+ x x)) x))", "(def f (a b) (con 0 a b))", "(0 4 1)"}, {"(let ((x 1)) (f (case (con 0 3) (0 (x) (+ x x))) (+ x x)))", "(def f (a b) (con 0 a b))", "(0 6 2)"},
		{"(letrec ((a (let ((b 3)) (+ b c))) (c 4)) a)", "", "7"}, {"(let ((a 1)) (letrec ((b a) (c b) (d c)) d))", "", "1"}, {"(letrec ((x (let ((y z)) y)) (z 5)) (+ x x))", "", "10"},
		// cases that are needed within others
		{"(+ (case (con 1 2 3) (1 (a b) (- a b))) (case (con 0) (1 () 9) (0 () 5)))", "", "4"}, {"(case (case (con 0) (0 () (con 1 8))) (0 () 1) (1 (x) (+ x x)))", "", "16"}, {"(- 9 (let ((a (+ 1 2))) (let ((b (* a a))) (case (< a b) (1 () (- b a)) (0 () 0)))))", "", "3"}, {"(+ 1 (letrec ((a (con 0 4 a))) (case a (0 (x y) (case y (0 (p q) (+ x p)))))))", "", "9"},
		// nothing is worked out that is not needed
		{"(let ((x (/ 1 0)) (y (1 1))) 5)", "", "5"}, {"(letrec ((x (case x (0 () x)))) 5)", "", "5"}, {"(case (con 0 (/ 1 0)) (0 (x) 5))", "", "5"}, {"(k 5 bad)", "(def bad () (/ 1 0)) (def k (x y) x)", "5"}, {"(case (con 0) (1 () (/ 1 0)) (0 () 5))", "", "5"}, {"(case (f 1) (0 (h t) h))", "(def f (n) (con 0 n (f (+ n 1))))", "1"}, {"(k 5 (letrec ((x x)) x))", "(def k (x y) x)", "5"},
		{"(take 4 (from 1))", "(def from (n) (con 1 n (from (+ n 1)))) (def take (n l) (case (= n 0) (1 () (con 0)) (0 () (case l (1 (h t) (con 1 h (take (- n 1) t)))))))", "(1 1 (1 2 (1 3 (1 4 (0)))))"},
	} {
		tells(t, c[0], c[1], api.OfValue, c[2])
	}
}

func TestErrors(t *testing.T) {
	for kind, l := range map[int][]string{
		api.OfKind: {
			"(+ 1 (con 0))", "(+ (con 0) 1)", "(- main2 1)", "(= f 1)", "(< 1 f)", "(case 1 (1 () 1))", "(case f (1 () 1))", "(case (con 0 1) (0 () 1))", "(case (con 0) (0 (x) 1))", "(case (con 0 1 2) (0 (x) 1))", "(+ 1 (case 5 (0 () 1)))", "(/ (con 0) 0)", "(con 0 1 (+ f 1))", "(case (g 1) (0 () 1))", "(+ (con 0) (+ 1 2))",
		},
		api.OfMatch: {"(case (con 3 4) (2 (x) x))", "(case (= 1 1) (0 () 1))", "(+ 1 (case (con 2) (0 () 1) (1 () 2)))", "(f (case (con 2) (0 () 1)))", "(case (con 2 1) (0 () 1))"},
		api.OfApply: {"(1 2)", "((con 0) 1)", "((+ 1 2) 3)", "(f 1 2)", "(f (con 0) 2 3)", "(main2 1)", "((1 2) (/ 1 0))", "(let ((x 1)) (x x))", "(+ 1 (f f 1 2))", "(g 1 2 3)"},
		api.OfZero:  {"(/ 1 0)", "(/ 0 0)", "(+ (con 0) (/ 1 0))", "(+ (/ 1 0) (1 1))", "(case (/ 1 0) (0 () 1))", "((/ 1 0) (1 1))", "(con 0 1 (/ 1 0) (1 1))", "(+ (f (/ 1 0)) (1 1))", "(let ((z (- 1 1))) (/ 5 z))", "(f (/ 1 0))"},
	} {
		for _, e := range l {
			tells(t, e, "(def main2 () (con 0)) (def f (x) x) (def g (x y) x)", kind, "")
		}
	}
}

func TestNothingEverComes(t *testing.T) {
	for _, e := range []string{
		"(letrec ((x x)) x)", "(letrec ((x y) (y x)) x)", "(letrec ((x (+ x 1))) x)", "(letrec ((x (case x (0 () 1)))) x)", "(letrec ((x (x 1))) x)", "(letrec ((x (f x))) x)", "main", "(+ 1 main)", "(f main)", "(let ((x main)) x)", "(letrec ((x (let ((y x)) y))) (x 1))", "(letrec ((x (letrec ((y x)) y))) x)", "(con 0 1 main2)", "(w w)", "(u 1)", "(+ (letrec ((x x)) x) (/ 1 0))", "(letrec ((x y) (y (+ x 1)) (z (con 0 x))) (case z (0 (a) a)))",
	} {
		if kind := agree(t, "(module m (def main () "+e+") (def main2 () main2) (def f (x) x) (def w (x) (x x)) (def u (n) (u (+ n 1))))"); kind != never {
			t.Errorf("%s: %d", e, kind)
		}
	}
}

// TestOnce: what is worked out once takes few moves; if it were not, these would take very many.
func TestOnce(t *testing.T) {
	for _, s := range []string{
		"(module m (def main () (d 14)) (def d (n) (case (= n 0) (1 () 1) (0 () (let ((x (d (- n 1)))) (+ x x))))))",
		"(module m (def main () (d 14)) (def d (n) (case (= n 0) (1 () 1) (0 () (a (d (- n 1)))))) (def a (x) (+ x x)))",
		"(module m (def main () (d 14)) (def d (n) (case (= n 0) (1 () 1) (0 () (case (con 0 (d (- n 1))) (0 (x) (+ x x)))))))",
		"(module m (def main () (d 14)) (def d (n) (case (= n 0) (1 () 1) (0 () (letrec ((y (con 0 x)) (x (d (- n 1)))) (case y (0 (x) (+ x x))))))))",
		"(module m (def main () (d 12)) (def d (n) (case (= n 0) (1 () i) (0 () (let ((f (d (- n 1)))) (c f f))))) (def c (f g x) (f (g x))) (def i (x) x))",
		"(module m (def main () (+ a (+ a a))) (def a () (+ b (+ b b))) (def b () (+ c (+ c c))) (def c () (+ d (+ d d))) (def d () (+ e (+ e e))) (def e () (+ f (+ f f))) (def f () 1))",
		// rows of Inds would grow here
		"(module m (def main () (r 40 1)) (def r (n x) (letrec ((a x) (b a) (c b) (d c)) (case (= n d) (1 () 7) (0 () (r (- n 1) d))))))",
		"(module m (def main () (r 40 1)) (def r (n x) (letrec ((a (let ((b x)) b))) (case (= n a) (1 () 7) (0 () (r (- n 1) a))))))",
		"(module m (def main () (let ((x (t t t i 1))) (let ((y (con 0 x x x x x x x x x x x x))) (con 0 y y y y y y y y y y y y)))) (def i (x) x) (def t (f x) (f (f x))))",
	} {
		if kind := agree(t, s); kind != api.OfValue {
			t.Errorf("%s: %d", s, kind)
		}
	}
}

// TestRowsOfInds: a value that many calls in a row gave is no farther away than one that one call gave.
func TestRowsOfInds(t *testing.T) {
	for _, def := range []string{
		"(def r (n x) (case (= n 0) (1 () x) (0 () (r (- n 1) x))))",
		"(def r (n x) (case (= n 0) (1 () x) (0 () (letrec ((y x)) (r (- n 1) y)))))",
		"(def r (n x) (case (= n 0) (1 () x) (0 () (letrec ((y (let ((z x)) z))) (r (- n 1) y)))))",
		"(def r (n x) (case (= n 0) (1 () x) (0 () (r (- n 1) (i x))))) (def i (x) x)",
	} {
		steps := func(n, uses string) int {
			_, objects := made(t, []string{"(module m (def main () (let ((v (r " + n + " (+ 1 1)))) (con 0 " + uses + "))) " + def + ")"})
			return run(t, api.MaxFuel, objects...).Steps
		}
		near, far := steps("1", "v v v")-steps("1", "v v"), steps("500", "v v v")-steps("500", "v v")
		if far > near+2 {
			t.Errorf("%s: one use more takes %d steps, and %d if there were more calls", def, near, far)
		}
	}
}

// TestModules: an import is the def of this name of the module that has it.
func TestModules(t *testing.T) {
	for _, texts := range [][]string{
		{"(module a (import g 2) (import c 0) (def main () (con 0 (g 1 c) g c (+ c c))))", "(module b (import h 1) (def g (x y) (- x (h y))) (def c () (h 20)))", "(module d (import g 2) (def h (x) (case (< x 10) (1 () (+ x 0)) (0 () (g 50 1)))))"},
		{"(module a (import f 1) (def main () (f (+ 1 2))))", "(module b (def f (x) (con 0 x x)))"},
		{"(module a (import zero 0) (def main () (case zero (0 () 1) (1 (x) (x 2)))))", "(module b (import one 2) (def zero () (con 1 (one 1))))", "(module c (def one (a b) (con 3 a b (+ a b))))"},
	} {
		if kind := agree(t, texts...); kind != api.OfValue {
			t.Errorf("%s: %d", texts, kind)
		}
	}
}
