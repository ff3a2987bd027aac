package tarn

import (
	"math/rand"
	"reflect"
	"slices"
	"strconv"
	"strings"
	"testing"

	"tarn/api"
)

// tells looks that Check tells just this of a text, and Compile the same, with no object beside an error.
func tells(t *testing.T, text string, e api.Errno, at int) {
	t.Helper()
	if got, place := Check(text); got != e || place != at {
		t.Errorf("P6: Check(%.300q) = %d, %d, want %d, %d", text, got, place, e, at)
	}
	o, got, place := Compile(text)
	if got != e || place != at {
		t.Errorf("P7: Compile(%.300q) = %d, %d, want %d, %d", text, got, place, e, at)
	}
	if e != api.OK && !reflect.DeepEqual(o, api.Object{}) {
		t.Errorf("P1: Compile(%.300q) gives an object beside an error: %+v", text, o)
	}
}

// at tells an error at the place where ^ stands in the text (which is no part of it).
func at(t *testing.T, text string, e api.Errno) {
	t.Helper()
	place := strings.Index(text, "^")
	tells(t, text[:place]+text[place+1:], e, place)
}

// good looks that nothing is wrong with a text.
func good(t *testing.T, text string) {
	t.Helper()
	tells(t, text, api.OK, 0)
}

// def is a module with one def, f, of these params.
func def(params, expr string) string { return "(module m (def f (" + params + ") " + expr + "))" }

// letters are n names of a letter each.
func letters(n int) string {
	return strings.Join(strings.Split("abcdefghijklmnopqrstuvwxyz"[:n], ""), " ")
}

// rich has everything that may stand in a text.
const rich = `(module mod (import far 20) (import q 0)
 (def f (x y) (let ((a (+ x 1)) (b y)) (letrec ((c (con 2 a d)) (d (f b c))) (case (far x y q) (0 () (- a -7)) (255 (h t) (con 9 h (con 0) t c d)) (7 (x) (x (g 1) 0))))))
 (def g (k) (* (/ k 3) (case (< k 2) (1 () (= 1 k)) (0 () (let ((k 1)) k)))))
 (def main () ((f 1) 9223372036854775807)))`

func TestCheckForm(t *testing.T) {
	good(t, rich)
	good(t, strings.ReplaceAll(rich, "\n", " \n\n  "))
	good(t, "\n "+strings.NewReplacer(" (", "(", ") ", ")", "\n", "").Replace(rich)+" \n")
	for _, s := range []string{"(module m)", "(module m(import a 0))", "(module m(def a()1))", "( module m ( import a 0 ) ( def b ( ) a ) )"} {
		good(t, s)
	}
	for _, s := range []string{
		"^", " \n ^", "(^", "(module^", "(module m^", "(module m (^", "(module m (import^", "(module m (import a^", "(module m (import a 0^", "(module m (import a 0)^", "(module m (def^", "(module m (def f^", "(module m (def f (^", "(module m (def f (x^", "(module m (def f (x)^",
		"(module m (def f () 1^", "(module m (def f () 1)^", "(module m \n^",
		"^)", "^module m)", "^x", "(^)", "(^(", "(^Module m)", "(^modul m)", "(^mod ule m)", "(module ^)", "(module ^(m))", "(module ^module)", "(module ^1)", "(module m ^m)", "(module m ^1)", "(module m ^def f () 1)", "(module m)^)", "(module m)^(", "(module m) ^(module n)", "(module m)^x",
		"(module m (^))", "(module m (^(def f () 1)))", "(module m (^x))", "(module m (^defs f () 1))", "(module m (^imports a 0))", "(module m (^let))",
		"(module m (import ^))", "(module m (import ^(a) 0))", "(module m (import ^0 a))", "(module m (import a ^))", "(module m (import a ^(0)))", "(module m (import a ^b))", "(module m (import a 0 ^0))", "(module m (import a 0 ^b 0))",
		"(module m (def f () 1) (^import a 0))", "(module m (import a 0) (def f () 1) (^import b 0))", "(module m (def f () 1) (^import f 0))", "(module m (def f () 1) (^import))",
		"(module m (def ^))", "(module m (def ^() 1))", "(module m (def ^(f) () 1))", "(module m (def f ^))", "(module m (def f ^1))", "(module m (def f ^x 1))", "(module m (def f (^(x)) 1))",
		"(module m (def f () ^))", "(module m (def f () 1 ^2))", "(module m (def f () 1 ^(f 1)))", "(module m (def f () 1^", "(module m (def f (^1) 1))", "(module m (def f (x ^(y)) 1))", "(module m (def f (x ^+) 1))",
	} {
		at(t, s, api.ErrSyntax)
	}
}

func TestCheckExprForm(t *testing.T) {
	for _, s := range []string{
		"1", "x", "(x 1)", "(1 1)", "((x 1) 1)", "((+ 1 2) (+ 1 2) 3)", "(let ((a 1)) a)", "(letrec ((a a)) a)", "((let ((a 1)) a) 1)", "(con 0)", "(con 0 1)", "((con 0) 1)", "(case 1 (0 () 1))", "((case 1 (0 () 1)) 1)", "(+ 1 1)", "(- 1 1)", "(- 1 -1)", "(* 1 1)", "(/ 1 1)", "(= 1 1)", "(< 1 1)", "(-1 1)", "(f f)",
	} {
		good(t, def("x", s))
	}
	for _, s := range []string{
		"(^)", "(x^)", "((x^) 1)", "(1^)", "(x 1^", "^+", "^-", "^=", "(+^)", "(+ 1^)", "(+ 1 2 ^3)", "(+ 1 2 ^(x 1))", "(+ ^+ 1)", "(x ^+)", "(^> 1 2)", "(^== 1 2)", "(^+1 2)", "(^% 1 2)", "(^-- 1 2)",
		"(let^)", "(let ^x)", "(let ^1 2)", "(let (^) 1)", "(let (^x) 1)", "(let (^x 1) 1)", "(let ((^) 1) 1)", "(let ((^1 1)) 1)", "(let ((^(x) 1)) 1)", "(let ((a^)) 1)", "(let ((a 1 ^1)) 1)", "(let ((a 1) ^a) a)", "(let ((a 1) ^1) a)", "(let ((a 1))^)", "(let ((a 1)) a ^a)", "(let ((a 1)) a ^(a a))", "(let ((a ^+)) 1)", "(let ((a 1)) ^let)",
		"(letrec^)", "(letrec ^x)", "(letrec (^) 1)", "(letrec (^x) 1)", "(letrec ((a^)) 1)", "(letrec ((a 1 ^1)) 1)", "(letrec ((a 1))^)", "(letrec ((a 1)) a ^a)", "(let ((^let 1)) 1)",
		"(con^)", "(con ^x)", "(con ^(0))", "(con ^-1)", "(con ^256)", "(con ^00)", "(con ^01 1)", "(con ^+)", "(con 0 ^+)", "(con 0 ^con)", "(con 0 1^",
		"(case^)", "(case 1^)", "(case 1 ^1)", "(case 1 ^x)", "(case 1 (^))", "(case 1 (^x () 1))", "(case 1 (^(0) () 1))", "(case 1 (^-1 () 1))", "(case 1 (^256 () 1))", "(case 1 (^01 () 1))", "(case 1 (0^))", "(case 1 (0 ^1))", "(case 1 (0 ^x 1))", "(case 1 (0 (^1) 1))", "(case 1 (0 (a ^(b)) 1))", "(case 1 (0 ()^))", "(case 1 (0 () 1 ^1))", "(case 1 (0 () 1) ^1)", "(case 1 (0 () 1) ^x)", "(case 1 (0 () 1) (^))", "(case ^+ (0 () 1))", "(case ^case)", "(case 1 (0 () ^case))",
		"(^module 1)", "(^import 1)", "(^def f () 1)", "(x ^module)", "(x ^import)", "(x ^def)", "(x ^let)", "(x ^letrec)", "(x ^con)", "(x ^case)", "(let ((a 1)) ^con)",
	} {
		if strings.HasSuffix(s, "^") {
			at(t, "(module m (def f (x) "+s, api.ErrSyntax)
			continue
		}
		for _, around := range []string{"E", "(E 1)", "(x E)", "(x E 1)", "(+ E 1)", "(+ 1 E)", "(con 0 E 1)", "(let ((a E)) 1)", "(letrec ((a 1) (b E)) 1)", "(let ((a 1)) E)", "(case E (0 () 1))", "(case 1 (0 () E) (1 () 1))"} {
			if around == "(E 1)" && s[0] == '^' {
				continue // an op may stand there
			}
			at(t, def("x", strings.Replace(around, "E", s, 1)), api.ErrSyntax)
		}
	}
}

// TestCheckGaps: blanks and newlines part words, and nothing else does.
func TestCheckGaps(t *testing.T) {
	for b := range 256 {
		c := string([]byte{byte(b)})
		s := "(module m" + c + "(def f () 1))"
		switch {
		case c == " " || c == "\n":
			good(t, s)
		case c == "(":
			tells(t, s, api.ErrSyntax, 10)
		case c == ")":
			tells(t, s, api.ErrSyntax, 10)
		case nameLike("m" + c):
			good(t, s)
		default:
			tells(t, s, api.ErrSyntax, 8)
		}
	}
	tells(t, "(module m)\x00", api.ErrSyntax, 10)
	tells(t, "\ufeff(module m)", api.ErrSyntax, 0)
	tells(t, "(module m (def f () 1\r\n))", api.ErrSyntax, 20)
}

// TestCheckNames: what is no name, wherever one must stand.
func TestCheckNames(t *testing.T) {
	for _, s := range []string{
		"(module N)", "(module m (import N 1))", "(module m (def N () 1))", "(module m (def f (N) 1))", "(module m (def f (x N) 1))",
		"(module m (def f () (let ((N 1)) 1)))", "(module m (def f () (letrec ((N 1)) 1)))", "(module m (def f () (case 1 (0 (N) 1))))", "(module m (def N () N))", "(module m (def N () (N N)))",
	} {
		place := strings.Index(s, "N")
		for _, n := range []string{"a", "z", "a0", "z9z9z9z9z9", "abcdefghij", "lets", "modul", "cases", "letre", "i", "defs"} {
			good(t, strings.ReplaceAll(s, "N", n))
		}
		for _, n := range []string{"abcdefghijk", "a#", "a#b", "#", "A", "aB", "0a", "9", "a-b", "a_", "a.", "a\t", "ä", "a\x80", "module", "import", "def", "let", "letrec", "con", "case", "+", "<"} {
			tells(t, strings.ReplaceAll(s, "N", n), api.ErrSyntax, place)
		}
	}
}

func TestCheckNumbers(t *testing.T) {
	for _, n := range []string{"0", "1", "9", "10", "100", "-1", "-9", "-10", "9223372036854775807", "-9223372036854775808", "1000000000000000000"} {
		good(t, def("", n))
		good(t, def("", "(+ "+n+" "+n+")"))
		good(t, def("", "("+n+" "+n+")"))
	}
	for _, n := range []string{"-", "--1", "-0", "00", "01", "-01", "-00", "+1", "+0", "1a", "1#", "0x1", "1_0", "1e3", "1.0", "1-", "9223372036854775808", "-9223372036854775809", "18446744073709551616", "99999999999999999999999999", strings.Repeat("9", 1900), "0000000000000000000000000000000000001", "١"} {
		tells(t, def("", n), api.ErrSyntax, 20)
		tells(t, def("", "(+ 1 "+n+")"), api.ErrSyntax, 25)
		if n != "-" {
			tells(t, def("", "("+n+" 1)"), api.ErrSyntax, 21)
		}
	}
}

// TestCheckTags: tags and arities, their most and one more.
func TestCheckTags(t *testing.T) {
	for _, c := range []struct {
		text string
		most int
	}{{"(module m (import a N))", api.MaxArity}, {def("", "(con N 1)"), 255}, {def("", "(case 1 (N () 1))"), 255}} {
		place := strings.Index(c.text, "N")
		for n := range 300 {
			s := strings.Replace(c.text, "N", strconv.Itoa(n), 1)
			if n <= c.most {
				good(t, s)
			} else {
				tells(t, s, api.ErrSyntax, place)
			}
		}
		for _, n := range []string{"-1", "-0", "00", "01", "x", "+1", "1x", "4294967296", "18446744073709551616", "18446744073709551617", strings.Repeat("1", 100)} {
			tells(t, strings.Replace(c.text, "N", n, 1), api.ErrSyntax, place)
		}
	}
}

func TestCheckLength(t *testing.T) {
	blanks := strings.Repeat(" ", api.MaxText)
	good(t, "(module m)"+blanks[10:])
	good(t, blanks[10:]+"(module m)")
	tells(t, "(module m)"+blanks[9:], api.ErrLong, 0)
	tells(t, blanks[9:]+"(module m)", api.ErrLong, 0)
	tells(t, blanks, api.ErrSyntax, api.MaxText)
	tells(t, blanks+" ", api.ErrLong, 0)
	tells(t, ")"+blanks, api.ErrLong, 0)
	tells(t, strings.Repeat(")", 1<<20), api.ErrLong, 0)
}

// TestCheckNest: MaxNest brackets of Exprs in one another, of each kind, and one more; others do not count.
func TestCheckNest(t *testing.T) {
	kinds := [][2]string{
		{"(+ 1 ", ")"}, {"(+ ", " 1)"}, {"(f ", ")"}, {"(", " 1)"}, {"(con 0 ", ")"}, {"(let ((x ", ")) 1)"}, {"(case ", " (0 () 1))"}, {"(case 1 (0 () ", "))"},
		{"(let ((x 1)) ", ")"}, {"(letrec ((x ", ")) 1)"}, // these make more names known than may be, which is told behind all of the form
	}
	for k, c := range kinds {
		nested := func(n int, in string) string {
			return def("", strings.Repeat(c[0], n)+in+strings.Repeat(c[1], n))
		}
		places := 20 + len(c[0])*api.MaxNest
		if k < len(kinds)-2 {
			good(t, nested(api.MaxNest, "1"))
		} else {
			tells(t, nested(api.MaxNest, "1"), api.ErrDeep, 20+len(c[0])*api.MaxArity+strings.Index(c[0], "x"))
		}
		tells(t, nested(api.MaxNest, "(f 1)"), api.ErrDeep, places)
		tells(t, nested(api.MaxNest, "(01"), api.ErrDeep, places)
		tells(t, nested(api.MaxNest, "()"), api.ErrDeep, places)
		tells(t, nested(api.MaxNest, "01"), api.ErrSyntax, places)
		tells(t, nested(api.MaxNest+1, "1"), api.ErrDeep, places)
	}
	// What has come to its end counts no more.
	good(t, def("", "(f "+strings.Repeat("(f 1)", 100)+")"))
	deepest := strings.Repeat("(f ", api.MaxNest) + "1" + strings.Repeat(")", api.MaxNest)
	good(t, "(module m (def f () "+deepest+") (def g () "+deepest+"))")
}

// TestCheckFields: a con with MaxArity fields, and whatever stands behind these.
func TestCheckFields(t *testing.T) {
	full := "(con 7" + strings.Repeat(" 1", api.MaxArity)
	good(t, def("", full+")"))
	good(t, def("", full+" \n )"))
	good(t, def("", "(con 7 "+strings.Repeat("(con 0)", api.MaxArity)+")"))
	good(t, def("", "(con 7 "+full+") "+full+"))"))
	ahead := "(module m (def f () " + full + " "
	for _, s := range []string{"1", "x", "01", "(", "(f 1)", "()", "+", "con", "A", "-0", "\t", ""} {
		tells(t, ahead+s, api.ErrDeep, len(ahead))
		if s != "" {
			tells(t, ahead+s+")))", api.ErrDeep, len(ahead))
		}
	}
	tells(t, strings.TrimSpace(ahead), api.ErrDeep, len(ahead)-1)
	short := strings.TrimSuffix(ahead, "1 ")
	tells(t, short, api.ErrSyntax, len(short))
	tells(t, short+"01", api.ErrSyntax, len(short))
}

func TestCheckTwice(t *testing.T) {
	for _, s := range []string{
		"(module m (import a 0) (import ^a 0))", "(module m (import a 0) (import b 0) (import ^a 1))", "(module m (import a 0) (def ^a () 1))", "(module m (def a () 1) (def ^a () 1))", "(module m (def a () 1) (def b () 1) (def ^a (x) x))",
		"(module m (import a 0) (import ^a", "(module m (import a 0) (import ^a 21))", "(module m (def a () 1) (def ^a 1))", "(module m (def f (a ^a) 1))", "(module m (def f (a b ^a b) 1))", "(module m (def f (a ^a", "(module m (def f (a ^a 1) 1))",
		"(module m (def f () (let ((a 1) (^a 1)) 1)))", "(module m (def f () (let ((a 1) (b 1) (^a 1)) 1)))", "(module m (def f () (let ((a 1) (^a", "(module m (def f () (letrec ((a 1) (^a 1)) 1)))", "(module m (def f () (letrec ((a 1) (b 1) (^a 01)) 1)))",
		"(module m (def f () (case 1 (0 (a ^a) 1))))", "(module m (def f () (case 1 (0 (a b ^b) 1))))", "(module m (def f () (case 1 (0 () 1) (^0 () 1))))", "(module m (def f () (case 1 (0 () 1) (1 () 1) (^0 () 01))))", "(module m (def f () (case 1 (0 () 1) (^0",
		"(module m (def f (a ^a) y))", "(module m (def f () y) (def ^f () 01))", "(module m (def f () y) (def ^f () y))",
	} {
		at(t, s, api.ErrTwice)
	}
	for _, s := range []string{
		"(module m (def m () 1))", "(module m (import m 0))", def("f", "f"), def("a", "(let ((a 1)) a)"), def("a", "(letrec ((a a)) a)"), def("a", "(case a (0 (a) a) (1 (a) a))"), def("", "(let ((a (let ((a 1)) a))) (let ((a a)) a))"),
		def("", "(case 1 (0 () (case 1 (0 () 1) (1 () 1))) (1 () 1))"), def("", "(+ (let ((a 1)) a) (let ((a 1)) a))"), "(module m (def a (x) x) (def b (x) x))", def("", "(case (case 1 (0 () 1)) (0 () 1))"), def("", "(let ((f 1)) f)"),
		"(module m (def f (f) (let ((f f)) (letrec ((f f)) (case f (0 (f) f))))))", def("", "(con 0 (con 0) (con 0))"),
	} {
		good(t, s)
	}
}

func TestCheckUnknown(t *testing.T) {
	for _, s := range []string{
		"(module m (def f () ^a))", "(module m (def f () ^m))", "(module m (def f () (^a 1)))", "(module m (def f () (f ^a)))", "(module m (def f () (+ ^a b)))", "(module m (def f () (+ 1 ^b)))", "(module m (def f () (con 0 1 ^b)))",
		"(module m (def f () (let ((a ^a)) a)))", "(module m (def f () (let ((a 1) (b ^a)) a)))", "(module m (def f () (let ((a ^b) (b 1)) a)))", "(module m (def f () (let ((a 1)) ^b)))", "(module m (def f () (+ (let ((a 1)) a) ^a)))",
		"(module m (def f () (letrec ((a ^b)) a)))", "(module m (def f () (letrec ((a b) (b 1)) ^c)))", "(module m (def f () (+ (letrec ((a b) (b 1)) a) ^b)))",
		"(module m (def f () (case ^a (0 (a) a))))", "(module m (def f () (case 1 (0 (a) a) (1 (b) ^a))))", "(module m (def f () (case 1 (0 (a) ^b) (1 (b) b))))", "(module m (def f () (f (case 1 (0 (a) a)) ^a)))",
		"(module m (def f (a) a) (def g () ^a))", "(module m (def f () ^a) (def g (a) b))", "(module m (import b 0) (def f () b) (def g () ^c))", "(module m (def f () (^x y)))",
	} {
		at(t, s, api.ErrName)
	}
	for _, s := range []string{
		"(module m (def f () g) (def g () f))", "(module m (import a 3) (def f () a))", def("", "(letrec ((a b) (b a)) b)"), def("a", "(let ((b a) (c a)) (+ b c))"), def("a", "(case a (0 (b c) (a b c f)))"), "(module m (import a 0) (def f (a) (let ((a a)) a)))",
	} {
		good(t, s)
	}
	// All of the form comes ahead of names.
	at(t, "(module m (def f () a) (def g () ^01))", api.ErrSyntax)
	at(t, "(module m (def f () a) (def ^f () 1))", api.ErrTwice)
	at(t, "(module m (def f () a)^", api.ErrSyntax)
	at(t, "(module m (def f () a)) ^x", api.ErrSyntax)
	at(t, "(module m (def f () (con 0 a"+strings.Repeat(" 1", api.MaxArity-1)+" ^b)))", api.ErrDeep)
}

// TestCheckKnown: MaxArity names that are known at a place, of each kind, and one more.
func TestCheckKnown(t *testing.T) {
	l := letters(api.MaxArity)
	less := letters(api.MaxArity - 1)
	few := letters(api.MaxArity - 2)
	for _, s := range []string{
		def(l, "a"), def(less, "(let ((z a)) z)"), def(less, "(letrec ((z a)) z)"), def(less, "(case a (0 (z) z) (1 (y) y))"), def(few, "(let ((y a) (z a)) z)"), def(few, "(letrec ((y a) (z a)) z)"), def(few, "(case a (0 (y z) z))"),
		def(few, "(let ((y (let ((z a)) z))) (let ((z a)) z))"), def(few, "(let ((y (let ((z a) (x a)) z))) (let ((z a)) z))"), def(less, "(+ (let ((z a)) z) (let ((y a)) y))"), def(l, "(f a)"), def("", "(case 1 (0 ("+l+") t))"), def(few, "(letrec ((y (let ((x a)) x))) y)"),
	} {
		good(t, s)
	}
	for _, s := range []string{
		def(l+" ^u", "1"), def(l+" ^u v w", "1"), def(l+" ^u", "nothing"), def(l, "(let ((^z a)) z)"), def(l, "(let ((^a a)) a)"), def(l, "(letrec ((^z z)) z)"), def(l, "(case a (0 () a) (1 (^z) a))"), def(l, "(let ((^z a)) nothing)"),
		def(less, "(let ((y a) (^z a)) z)"), def(less, "(letrec ((y a) (^z a)) z)"), def(less, "(case a (0 (y ^z w) z))"), def(less, "(let ((z a)) (let ((^y a)) y))"), def(less, "(case a (0 (y) (case a (1 (^x) x))))"), def(less, "(let ((a a)) (let ((^a a)) a))"),
		def("", "(case 1 (0 ("+l+" ^u) t))"), def(less, "(+ (let ((z a)) z) (let ((y a)) (let ((^x a)) x)))"), def(few, "(let ((y (let ((z a) (x a) (^w a)) z))) y)"),
		// All names of a letrec are known in what they stand for, those behind it too.
		def(few, "(letrec ((y (let ((^x a)) x)) (z a)) y)"), def(less, "(letrec ((y (let ((^x a)) x)) (z a)) y)"), def(less, "(letrec ((y (case a (0 (^x) x))) (z a)) y)"),
		def(less, "(let ((y a) (^z nothing)) z)"),
	} {
		at(t, s, api.ErrDeep)
	}
	for _, s := range []string{
		def(l, "(+ ^nothing (let ((z a)) z))"), def(less, "(let ((y ^nothing) (z a)) z)"), def(l, "(case ^nothing (0 (z) z))"), "(module m (def f () ^nothing) (def g (" + l + " u) a))",
	} {
		at(t, s, api.ErrName)
	}
	at(t, "(module m (def g ("+l+" ^u) a) (def f () nothing))", api.ErrDeep)
	at(t, def(l+" u", "^01"), api.ErrSyntax)
	at(t, def(l+" u ^a", "1"), api.ErrTwice)
	at(t, def(l+" u", "(con 0"+strings.Repeat(" a", api.MaxArity)+" ^a)"), api.ErrDeep)
}

// TestCheckExamples: those of the document.
func TestCheckExamples(t *testing.T) {
	tells(t, "(module m (def f (x) y))", api.ErrName, 21)
	tells(t, "(module m (def f (x x) x))", api.ErrTwice, 20)
	tells(t, "(module m", api.ErrSyntax, 9)
	tells(t, "(module m (def f () 01))", api.ErrSyntax, 20)
	tells(t, "(module m (def f () (f)))", api.ErrSyntax, 22)
}

// TestCheckEndsEarly: every text that ends ahead of its last bracket, but within no word.
func TestCheckEndsEarly(t *testing.T) {
	for _, spot := range pieces.FindAllStringIndex(rich, -1) {
		tells(t, rich[:spot[0]], api.ErrSyntax, spot[0])
	}
}

// vocabulary is what the texts below are made of.
var vocabulary = append(strings.Fields("( ) ( ) module import def let letrec con case + - * / = < 0 1 7 01 -0 -1 20 21 255 256 9223372036854775807 9223372036854775808 -9223372036854775808 -9223372036854775809 a b c f g x y far mod abcdefghij abcdefghijk a#b A 1a +1 \t \x00 \xc3"), "")

// held looks that Check tells what the tests' own reading tells, and counts what was told.
func held(t *testing.T, text string, seen map[api.Errno]int) {
	t.Helper()
	e, at := faultOf(text)
	if got, place := Check(text); got != e || place != at {
		t.Fatalf("P6: Check(%q) = %d, %d, want %d, %d", text, got, place, e, at)
	}
	seen[e]++
}

// crowded is near every limit.
func crowded() string {
	return "(module m (def f (" + letters(18) + ") (let ((s a) (t (con 1" + strings.Repeat(" a", 19) + "))) " + strings.Repeat("(f ", 28) + "(con 0)" + strings.Repeat(")", 28) + ")) (def x () (case f (0 (a b) (letrec ((c d) (d c)) c)))))"
}

// TestCheckEdits: good texts with a piece left out, put in, or put in the place of another.
func TestCheckEdits(t *testing.T) {
	seen := map[api.Errno]int{}
	for _, text := range []string{rich, crowded()} {
		l := pieces.FindAllString(text, -1)
		for k := range l {
			for _, w := range vocabulary {
				with := slices.Clone(l)
				with[k] = w
				held(t, strings.Join(with, " "), seen)
				held(t, strings.Join(slices.Insert(slices.Clone(l), k, w), "\n"), seen)
			}
		}
	}
	for _, e := range []api.Errno{api.OK, api.ErrSyntax, api.ErrDeep, api.ErrName, api.ErrTwice} {
		if seen[e] < 50 {
			t.Errorf("%d of the texts have %d: these say too little", seen[e], e)
		}
	}
}

// TestCheckByChance: several edits at once, and texts of pieces alone.
func TestCheckByChance(t *testing.T) {
	r := rand.New(rand.NewSource(1))
	seen := map[api.Errno]int{}
	sources := [][]string{pieces.FindAllString(rich, -1), pieces.FindAllString(crowded(), -1)}
	for range 6000 {
		l := slices.Clone(sources[r.Intn(2)])
		for range 1 + r.Intn(4) {
			k := r.Intn(len(l))
			from := sources[r.Intn(2)]
			i := r.Intn(len(from))
			l = slices.Replace(l, k, min(len(l), k+r.Intn(5)), from[i:min(len(from), i+r.Intn(5))]...)
		}
		held(t, strings.Join(l, " "), seen)
		var any []string
		for range r.Intn(12) {
			any = append(any, vocabulary[r.Intn(len(vocabulary))])
		}
		held(t, "(module m (def f (x) "+strings.Join(any, " ")+"))", seen)
	}
}

// TestCheckAnyBytes: texts that hold all kinds of bytes.
func TestCheckAnyBytes(t *testing.T) {
	r := rand.New(rand.NewSource(1))
	seen := map[api.Errno]int{}
	for range 3000 {
		b := make([]byte, r.Intn(60))
		for k := range b {
			b[k] = byte(r.Intn(256))
		}
		text := []byte(rich)
		text[r.Intn(len(text))] = byte(r.Intn(256))
		for _, s := range []string{string(b), string(text), rich[:r.Intn(len(rich))] + string(b)} {
			held(t, s, seen)
			e, at := Check(s)
			tells(t, s, e, at)
		}
	}
}
