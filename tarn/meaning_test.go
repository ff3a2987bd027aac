package tarn

import (
	"strconv"
	"strings"
	"testing"

	"tarn/api"
)

// image is made of texts as files pass from hand to hand: compiled, written, read and linked.
func image(t *testing.T, texts ...string) *Image {
	t.Helper()
	var l []api.Object
	for _, s := range texts {
		file, e := Encode(compiled(t, s))
		o, bad, place := Decode(file)
		if e != api.OK || bad != api.OK {
			t.Fatalf("P5: %s: Encode %d, Decode %d, %+v", s, e, bad, place)
		}
		l = append(l, o)
	}
	return linked(t, l...)
}

// enough is the fuel and the cells with which so many moves are promised to come to their end.
func enough(t *testing.T, moves int, texts ...string) int {
	t.Helper()
	n := 40*len(strings.Join(texts, ""))*(moves+1) + 10000
	if n > api.MaxFuel || n > api.MaxCells {
		t.Fatalf("%s: nothing is promised of %d moves", texts, moves)
	}
	return n
}

// means looks that main comes to this end with so many moves: with just the
// fuel and cells that are promised to be enough, with more, and with less.
func means(t *testing.T, kind int, text string, moves int, texts ...string) {
	t.Helper()
	i := image(t, texts...)
	most := enough(t, moves, texts...)
	want := i.Run(most, most)
	if want.Kind != kind || want.Text != text {
		t.Errorf("P10: %s: %+v, want %d, %q", texts, want, kind, text)
		return
	}
	for _, more := range []int{most + 1, api.MaxFuel} {
		if got := i.Run(more, more); got != want {
			t.Errorf("P10: %s with %d: %+v, want %+v", texts, more, got, want)
		}
	}
	const parts = 50
	for k := range parts {
		less(t, texts, want, i.Run(want.Steps*k/parts, most))
		less(t, texts, want, i.Run(most, want.Cells*k/parts))
		less(t, texts, want, i.Run(want.Steps-1, want.Cells*k/parts))
	}
}

// less looks at what is told with less fuel or fewer cells: the same, FUEL or CELLS.
func less(t *testing.T, texts []string, want, got api.Outcome) {
	t.Helper()
	spent := (got.Kind == api.OfFuel || got.Kind == api.OfCells) && got.Text == ""
	if !spent && got != want {
		t.Errorf("P10: %s with less: %+v, with more %+v", texts, got, want)
	}
}

// alone is the module whose main is this Expr, with other defs behind it.
func alone(expr, defs string) string { return "(module m (def main () " + expr + ") " + defs + ")" }

// lib has defs that several tests use.
const lib = "(def id (x) x) (def k (x y) x) (def loop () loop) (def none () (con 0)) (def from (n) (con 1 n (from (+ n 1)))) " +
	"(def take (n l) (case (= n 0) (1 () none) (0 () (case l (0 () l) (1 (h t) (con 1 h (take (- n 1) t)))))))" +
	"(def map (f l) (case l (0 () l) (1 (h t) (con 1 (f h) (map f t)))))"

func TestMeansValues(t *testing.T) {
	for _, c := range []struct {
		expr, defs, text string
		moves            int
	}{
		// numbers and ops
		{"7", "", "7", 1}, {"-9223372036854775808", "", "-9223372036854775808", 1},
		{"(+ 1 2)", "", "3", 2}, {"(- 1 2)", "", "-1", 2}, {"(* 3037000500 3037000500)", "", "-9223372036709301616", 2}, {"(+ 9223372036854775807 1)", "", "-9223372036854775808", 2}, {"(- -9223372036854775808 1)", "", "9223372036854775807", 2},
		{"(/ -7 2)", "", "-3", 2}, {"(/ 7 -2)", "", "-3", 2}, {"(/ -9223372036854775808 -1)", "", "-9223372036854775808", 2},
		{"(= 1 1)", "", "(1)", 2}, {"(= 1 2)", "", "(0)", 2}, {"(< 1 2)", "", "(1)", 2}, {"(< 1 1)", "", "(0)", 2}, {"(< 2 1)", "", "(0)", 2},
		{"(- (- 9 4) (- 1 2))", "", "6", 4},
		// functions
		{"f", "(def f (x) x)", "fun", 1}, {"(f 1)", "(def f (x y) x)", "fun", 1}, {"g", "(def g () (f 1)) (def f (x y) x)", "fun", 2}, {"(let ((p (f 1))) (con 0 (p 2) (p 3) p))", "(def f (a b) (- a b))", "(0 -1 -2 fun)", 5},
		// records
		{"(con 255)", "", "(255)", 1}, {"(con 1 (+ 1 2) f)", "(def f (x) x)", "(1 3 fun)", 2}, {"(con 0 1 (con 1 -2 (con 2)) (f 3))", "(def f (x) (con 3 x x))", "(0 1 (1 -2 (2)) (3 3 3))", 2},
		// calls
		{"(f 1 2 3)", "(def f (a b c) (con 9 c b a))", "(9 3 2 1)", 2}, {"((f 1) 2)", "(def f (a b) (- a b))", "-1", 3}, {"(g 1 2)", "(def g (x) (f x)) (def f (a b) (- a b))", "-1", 4}, {"(g 5)", "(def g () (f 1)) (def f (a b) (- a b))", "-4", 4}, {"(i i i 5)", "(def i (x) x)", "5", 4}, {"(t t i 1)", "(def t (f x) (f (f x))) (def i (x) x)", "1", 9}, {"((case (con 0) (0 () f)) 1)", "(def f (x) x)", "1", 3}, {"((let ((a 1)) (f a)) 2)", "(def f (a b) (- a b))", "-1", 3},
		// names
		{"(let ((x 1) (y 2)) (let ((x y) (y x)) (- x y)))", "", "1", 2}, {"(let ((f 3)) f)", "(def f () (/ 1 0))", "3", 1}, {"(f 1)", "(def f (f) f)", "1", 2}, {"(f 2)", "(def f (x) (case (con 0 (+ x 1)) (0 (x) (let ((x (* x 10))) x))))", "30", 5}, {"(case (con 0 5) (0 (main) main))", "", "5", 2}, {"(let ((x 1)) (f (let ((x 2)) (+ x x)) x))", "(def f (a b) (con 0 a b))", "(0 4 1)", 3}, {"z", "(def z () y) (def y () x) (def x () 4)", "4", 4},
		{"(letrec ((a (con 1 1 b)) (b (con 2 2 c)) (c 3)) a)", "", "(1 1 (2 2 3))", 1}, {"(letrec ((l (con 1 7 l))) (case l (1 (h t) (case t (1 (a b) a)))))", "", "7", 3}, {"(letrec ((x y) (y z) (z (+ 1 1))) (* x y))", "", "4", 3}, {"(let ((x 1)) (letrec ((x (con 0 y)) (y 2)) x))", "", "(0 2)", 1},
		// cases
		{"(case (= 1 2) (1 () 5) (0 () 6))", "", "6", 3}, {"(case (con 3 4 5) (2 (x) x) (3 (x y) (- x y)))", "", "-1", 3}, {"(- (case (con 1 9) (1 (a) a)) (case (con 0) (1 () 9) (0 () 5)))", "", "4", 4}, {"(case (case (con 0) (0 () (con 1 8))) (0 () 1) (1 (x) (+ x x)))", "", "16", 4}, {"(case (con 255 (con 0)) (255 (x) (case x (0 () 1))))", "", "1", 3},
		// all together
		{"(fact 10)", "(def fact (n) (case (= n 0) (1 () 1) (0 () (* n (fact (- n 1))))))", "3628800", 54}, {"(take 2 (map (k 7) (from 1)))", lib, "(1 7 (1 7 (0)))", 23}, {"(even 5)", "(def even (n) (case (= n 0) (1 () (= 0 0)) (0 () (odd (- n 1))))) (def odd (n) (case (= n 0) (1 () (= 0 1)) (0 () (even (- n 1)))))", "(0)", 25},
	} {
		means(t, api.OfValue, c.text, c.moves, alone(c.expr, c.defs))
	}
}

func TestMeansErrors(t *testing.T) {
	for kind, l := range map[int]map[string]int{
		api.OfKind: {
			// an op of what is no number: the right Expr is worked out, too
			"(+ 1 (con 0))": 1, "(- (con 0) 1)": 1, "(* c 1)": 2, "(= f 1)": 1, "(< 1 (g 1))": 1, "(/ (con 0) 0)": 1, "(+ (con 0) (+ 1 2))": 2, "(+ f c)": 2,
			// a case of what is no record, or with other names than there are fields
			"(case 1 (1 () 1))": 1, "(case f (1 () 1))": 1, "(case (g 1) (1 () 1))": 1, "(case (+ 1 1) (2 () 1))": 2, "(case (con 0 1) (0 () 1))": 1, "(case (con 0) (0 (x) 1))": 1, "(case c (1 () 1) (0 (x y) 1))": 2, "(case (= 1 1) (0 () 1) (1 (x) x))": 2,
			// as it is told, and ahead of what comes behind
			"(con 0 1 (+ f 1))": 1, "(con 0 (f 1) (case 2 (0 () 1)) (/ 1 0))": 2, "(+ (+ 1 c) (/ 1 0))": 2, "((+ 1 c) (/ 1 0))": 2,
		},
		api.OfMatch: {
			"(case (con 3 4) (2 (x) x))": 1, "(case (= 1 1) (0 () 1))": 2, "(case (con 2 1) (0 () 1) (1 (x) x))": 1, "(case (con 255) (0 () 1))": 1, "(f (case (con 2) (0 () 1)))": 2, "(+ 1 (case c (1 () 1)))": 2, "(con 0 (case c (1 () 1)) (/ 1 0))": 2, "((case c (1 () f)) (/ 1 0))": 2, "(case (con 1 1 2) (2 (x) x))": 1,
		},
		api.OfApply: {
			"(1 2)": 1, "((con 0) 1)": 1, "(c 1)": 2, "((+ 1 2) 3)": 2, "((= 1 2) 3)": 2, "(f 1 2)": 2, "(g 1 2 3)": 2, "(f f 1 2)": 3, "((1 2) (/ 1 0))": 1, "(let ((x 1)) (x x))": 1, "(letrec ((x (con 0 x))) (x x))": 1, "(+ (1 2) (/ 1 0))": 1, "(con 0 (c c))": 2, "((case c (0 () c)) 1)": 3,
		},
		api.OfZero: {
			"(/ 1 0)": 1, "(/ 0 0)": 1, "(let ((z (- 1 1))) (/ 5 z))": 2, "(+ (/ 1 0) (1 1))": 1, "(+ (con 0) (/ 1 0))": 1, "(+ f (/ 1 0))": 1, "(case (/ 1 0) (0 () 1))": 1, "((/ 1 0) (1 1))": 1, "(f (/ 1 0))": 2, "(g (/ 1 0) (1 2))": 2, "(con 0 1 (/ 1 0) (1 1))": 1, "(con 0 (con 0 (con 0 f) (/ 1 0)))": 1, "(= (f 1) (f (/ 1 0)))": 3,
		},
	} {
		for expr, moves := range l {
			means(t, kind, "", moves, alone(expr, "(def c () (con 0)) (def f (x) x) (def g (x y) x)"))
		}
	}
}

// TestMeansErrorsInTheText: an error ahead of so much text as there is no room for; or behind it.
func TestMeansErrorsInTheText(t *testing.T) {
	fields := strings.Repeat("(con 0)", api.MaxArity)
	for _, c := range []struct {
		expr, last string
		kind       int
	}{
		{"x", "(/ 1 0)", api.OfZero}, {"x", "(1 1)", api.OfApply}, {"x x", "(/ 1 0)", api.OfZero}, {"x x x x", "(+ f 1)", api.OfKind}, {"x x x x x x x x x x x x x x x x x x x", "(case f (0 () 1))", api.OfKind}, {"(con 0 x x x x) x x x x x x x x x x x x x x x x x x", "(case (con 0) (1 () 1))", api.OfMatch},
	} {
		means(t, c.kind, "", 1, alone("(let ((x (con 1 "+fields+"))) (con 2 "+c.expr+" "+c.last+"))", "(def f (x) x)"))
	}
	got := image(t, alone("(let ((x (con 1 "+fields+"))) (con 2 (con 3 x x x x x) (con 3 x x x x x) (con 3 x x x x x) (con 3 x x x x x) (con 3 x x x x x) (con 3 x x x x x) (/ 1 0)))", "")).Run(api.MaxFuel, api.MaxCells)
	if got.Kind != api.OfText || got.Text != "" {
		t.Errorf("P9: %+v", got)
	}
}

// TestMeansNotNeeded: what is not needed is not worked out, wherever it waits.
func TestMeansNotNeeded(t *testing.T) {
	for expr, moves := range map[string]int{
		"(let ((x (/ 1 0)) (y (1 1)) (z loop)) 5)": 1, "(let ((x (case 1 (0 () 1)))) 5)": 1, "(letrec ((x (case x (0 () x))) (y y) (z (z 1))) 5)": 1, "(let ((x (let ((y (/ 1 0))) (y y)))) 5)": 1,
		"(k 5 (/ 1 0))": 2, "(k 5 loop)": 2, "((k 5) (1 1))": 2, "(k (k 5) (k loop) loop)": 3, "(let ((p (k 5))) (p (p loop)))": 2, "(k 5 (letrec ((x x)) x))": 2, "(k 5 (con 0 loop))": 2, "(k 5 (loop loop))": 2,
		"(case (con 0 (/ 1 0) loop) (0 (x y) 5))": 2, "(case (con 0 (con 1 loop)) (0 (x) 5))": 2, "(case (= 1 1) (0 () (/ 1 0)) (1 () 5))": 3, "(case (from 1) (1 (h t) (- h -4)))": 4, "(case (con 0 5 loop) (0 (x y) (k x y)))": 3, "(case (map loop (from loop)) (1 (h t) 5))": 5,
		"(letrec ((x (con 1 5 (loop x)))) (case x (1 (h t) h)))": 2, "(case (take 1 (con 1 5 loop)) (1 (h t) h))": 6, "(case (take 2 (map id (con 1 loop (con 1 5 loop)))) (1 (h t) (case t (1 (h t) h))))": 17,
	} {
		means(t, api.OfValue, "5", moves, alone(expr, lib))
	}
}

// TestMeansNeverEnds: FUEL or CELLS, however much there is, and no LOOP.
func TestMeansNeverEnds(t *testing.T) {
	for _, expr := range []string{
		"loop", "(loop 1)", "(+ 1 loop)", "(+ loop (/ 1 0))", "(case loop (0 () 1))", "(id loop)", "(id id loop)", "(let ((x loop)) x)", "main", "(con 0 1 loop)", "(con 0 (con 1 2 loop))", "(f 1)", "(w w)", "(g 1)", "(+ 1 (g 1))",
		"(letrec ((x x)) x)", "(letrec ((x y) (y x)) x)", "(letrec ((x (+ x 1))) x)", "(letrec ((x (case x (0 () 1)))) x)", "(letrec ((x (x 1))) x)", "(letrec ((x (id x))) x)", "(letrec ((x (let ((y x)) y))) (x 1))", "(letrec ((x (letrec ((y x)) y))) x)", "(letrec ((x y) (y (+ x 1)) (z (con 0 x))) (case z (0 (a) a)))", "(letrec ((x (id x 1))) x)", "(letrec ((x (con 0 (+ y 1))) (y (case x (0 (a) a)))) y)", "(letrec ((x (k x x))) (con 0 x))",
	} {
		i := image(t, alone(expr, lib+"(def f (n) (f (+ n 1))) (def w (x) (x x)) (def g (n) (+ 1 (g n)))"))
		for _, c := range [][2]int{{0, 0}, {1, 1}, {1000, 1000}, {1000, api.MaxCells}, {api.MaxFuel, 100}, {api.MaxFuel, api.MaxCells}} {
			if got := i.Run(c[0], c[1]); got.Kind != api.OfFuel && got.Kind != api.OfCells || got.Text != "" {
				t.Errorf("P10: %s with %d: %+v", expr, c, got)
			}
		}
	}
}

// TestMeansKept: what was worked out at one use is there at the others.
func TestMeansKept(t *testing.T) {
	const slow = "(def count (n) (case (= n 0) (1 () 1) (0 () (count (- n 1))))) (def caf () (count 40)) (def fun () (add (count 40))) (def add (x y) (+ x y)) (def slow (n) (case (= (count n) 1) (1 () id)))" +
		"(def arg (v) USE) (def id (x) x) (def field (r) (case r (0 (v) USE))) (def both (r s) (case r (0 (v) (case s (0 (w) USE)))))"
	for _, expr := range []string{
		"(let ((v (count 40))) USE)", "(letrec ((v (count 40))) USE)", "(letrec ((w v) (v (count 40))) (let ((v w)) USE))", "(arg (count 40))", "(id (arg (count 40)))", "(case (con 0 (count 40)) (0 (v) USE))", "(field (con 0 (count 40)))", "(let ((v caf)) USE)", "(let ((x (+ 0 (count 40)))) (let ((v x)) USE))", "(let ((v (let ((z (count 40))) (+ z z)))) USE)",
		"(let ((r (con 0 (count 40)))) (both r r))", "(let ((v (id (id (id (count 40)))))) USE)", "(arg caf)", "(con 0 (letrec ((v (+ 1 (count 40)))) USE))",
		// functions that were worked out, and args that wait with them
		"(let ((p (slow 40))) (let ((v (p 1))) USE))", "(let ((p (add (count 40)))) (let ((v (p 1))) USE))", "(let ((p (slow 40))) (+ (p 1) USEP))", "(let ((p (add (count 40)))) (+ (p 1) USEP))", "(let ((p fun)) (+ (p 1) USEP))", "(letrec ((p (slow 40 (slow 40)))) (+ (p 1) USEP))",
	} {
		steps := func(use, usep string) int {
			s := strings.ReplaceAll(strings.ReplaceAll(alone(expr, slow), "USEP", usep), "USE", use)
			return image(t, s).Run(api.MaxFuel, api.MaxCells).Steps
		}
		once, often := steps("(+ v 1)", "1"), steps("(+ v (+ v (+ v v)))", "(+ (p 1) (+ (p 2) (p 3)))")
		if often > once+150 {
			t.Errorf("P10: %s: %d steps, with more uses %d", expr, once, often)
		}
	}
}

// TestMeansKeptTwice: twice as much with each name; it would take a million moves if nothing were kept.
func TestMeansKeptTwice(t *testing.T) {
	lets, ends, defs := "", "", "(def d0 () 1)"
	for k := 1; k <= api.MaxArity; k++ {
		n, before := strconv.Itoa(k), strconv.Itoa(k-1)
		lets += "(let ((d" + n + " (+ d" + before + " d" + before + "))) "
		ends += ")"
		defs += "(def e" + n + " () (+ e" + before + " e" + before + "))"
	}
	means(t, api.OfValue, "1048576", 22, alone(lets+"d20"+ends, "(def d0 () 1)"))
	means(t, api.OfValue, "1048576", 42, alone("e20", "(def e0 () 1)"+defs))
	means(t, api.OfValue, "1024", 64, alone("(d 10)", "(def d (n) (case (= n 0) (1 () 1) (0 () (a (d (- n 1)))))) (def a (x) (+ x x))"))
}

// TestMeansMuchText: just as much text as there is room for, of cells that are far away.
func TestMeansMuchText(t *testing.T) {
	const least = "-9223372036854775808"
	twenty := func(s string) string { return strings.Repeat(" "+s, api.MaxArity) }
	calls, lets := "(a(fn 1))", "(a(let((z 1))(fn z)))"
	for k := 'b'; k < 't'; k++ {
		name, before := string(k), string(k-1)
		calls += "(" + name + "(" + before + " 1))"
		lets += "(" + name + "(let((z 1))(" + before + " z)))"
	}
	defs := "(def fn(" + letters(api.MaxArity) + ")0)(def id(x)x)(def cafe()100)"
	for _, c := range []struct {
		expr, text string
		moves      int
	}{
		{"(+ 99 1)", "100", 2}, {"(id(id(id 100)))", "100", 4}, {"(letrec((a b)(b c)(c d)(d 100))a)", "100", 1}, {"cafe", "100", 2}, {"(con 0)", "(0)", 1},
		// functions that wait for one arg, and have the others
		{"fn", "fun", 1}, {"(fn" + strings.Repeat(" 1", api.MaxArity-1) + ")", "fun", 1}, {"(letrec(" + calls + ")s)", "fun", 1}, {"(letrec(" + lets + ")s)", "fun", 1},
	} {
		// x has 83 bytes, and all that is told ahead of the last number 1981
		x := "(1" + twenty(c.text) + ")"
		told := "(3 (2" + twenty(x) + ") " + x + " " + x + " " + x + " " + least + " " + least + " "
		made := "(let((x(let((w " + c.expr + "))(con 1" + twenty("w") + "))))(con 3(con 2" + twenty("x") + ")x x x " + least + " " + least + " "
		last := strings.Repeat("1", api.MaxOut-1-len(told))
		means(t, api.OfValue, told+last+")", c.moves, alone(made+last+"))", defs))
		if got := image(t, alone(made+"1"+last+"))", defs)).Run(api.MaxFuel, api.MaxCells); got.Kind != api.OfText || got.Text != "" {
			t.Errorf("P9: %s: one byte too many: %+v", c.expr, got)
		}
	}
}

// TestMeansLongTexts: texts as long as may be, in few moves.
func TestMeansLongTexts(t *testing.T) {
	l := letters(api.MaxArity)
	ones := strings.Repeat(" 1", api.MaxArity)
	nest, ends := strings.Repeat("(id(+ 1", 14), strings.Repeat("))", 14)
	branches := ""
	for k := range 256 {
		branches += "(" + strconv.Itoa(k) + "()1)"
	}
	for _, c := range []struct {
		text  string
		kind  int
		value string
		moves int
	}{
		{filled("(module m(def main()(id", " 1", "))(def id(x)x))"), api.OfApply, "", 2},
		{filled("(module m(def main()(fn 7(fn", " 1", ")))(def fn(x y)x))"), api.OfValue, "7", 2},
		{filled("(module m(def main()(fn 7(fn", "(+ 1 1)", ")))(def fn(x y)x))"), api.OfValue, "7", 2},
		{filled("(module m(def main()(all"+ones+"))(def fn(x y)y)(def all("+l+")(fn(fn", "(+ s t)", ")7)))"), api.OfValue, "7", 3},
		{filled("(module m(def main()(all"+ones+"))(def fn(x y)y)(def all("+l+")(fn(fn", "(case 1(0()("+l+")))", ")7)))"), api.OfValue, "7", 3},
		{filled("(module m(def main()(all"+ones+"))(def id(x)x)(def last("+l+")t)(def all("+l+")"+nest+"(last", " a", ")"+ends+"))"), api.OfApply, "", 17},
		{"(module m(def main()(all" + ones + "))(def id(x)x)(def last(" + l + ")t)(def all(" + l + ")" + nest + "(last " + l + ")" + ends + "))", api.OfValue, "15", 31},
		{filled("(module m(def main()(letrec((x 7))(let((y(x", "(letrec((x x)(y x)(z y))z)", ")))x))))"), api.OfValue, "7", 1},
		{"(module m(def main()(case(con 255)" + branches + ")))", api.OfValue, "1", 2},
	} {
		means(t, c.kind, c.value, c.moves, c.text)
	}
}

// TestMeansRows: in each call names that stand for names; their rows are not gone through again.
func TestMeansRows(t *testing.T) {
	row := "(a x)"
	for k := 'b'; k < 'm'; k++ {
		row += "(" + string(k) + " " + string(k-1) + ")"
	}
	means(t, api.OfValue, "7", 61, alone("(fn 14 7)", "(def fn (n x) (case (= n 0) (1 () (+ x 0)) (0 () (letrec ("+row+") (fn (- n 1) l)))))"))
	means(t, api.OfValue, "7", 89, alone("(fn 14 7)", "(def id (x) x) (def fn (n x) (case (= n 0) (1 () (+ x 0)) (0 () (letrec ((a (id x)) (b (id a))) (fn (- n 1) b)))))"))
	means(t, api.OfValue, "(0 7 7 7 7)", 68, alone("(let ((x (fn 16 7))) (con 0 x x x x))", "(def fn (n x) (case (= n 0) (1 () x) (0 () (fn (- n 1) x))))"))
	means(t, api.OfValue, "5", 100, alone("(i"+strings.Repeat(" i", 98)+" 5)", "(def i (x) x)"))
}
