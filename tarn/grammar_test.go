package tarn

import (
	"math/big"
	"regexp"
	"slices"
	"strings"

	"tarn/api"
)

// What is wrong with a text, told a second time and in another way, for the
// tests to hold Check against: the grammar as a table, gone through with a
// stack; and the names, looked up in the brackets as they stand.

var (
	pieces   = regexp.MustCompile(`[()]|[^() \n]+`)
	nameForm = regexp.MustCompile(`^[a-z][a-z0-9]{0,9}$`)
	digits   = regexp.MustCompile(`^-?[0-9]+$`)
	reserved = strings.Fields("module import def let letrec con case")
	ops      = strings.Fields("+ - * / = <")
)

func nameLike(s string) bool { return nameForm.MatchString(s) && !slices.Contains(reserved, s) }

// numberLike: whether this is a number from least to most, written as numbers are.
func numberLike(s string, least, most int64) bool {
	x, ok := new(big.Int).SetString(s, 10)
	return ok && digits.MatchString(s) && x.String() == s && x.Cmp(big.NewInt(least)) >= 0 && x.Cmp(big.NewInt(most)) <= 0
}

// rules: what a symbol becomes, by the piece that is next ("" is any other).
// Behind { names and tags are new ones, till }. )e is a ) of an Expr.
var rules = map[string]map[string]string{
	"TEXT":     {"": "( module NAME { ITEMS END"},
	"ITEMS":    {"(": "( ITEM", "": ")"},
	"ITEM":     {"import": "import NEW ARITY ) ITEMS", "": "def DEF DEFS"},
	"DEFS":     {"(": "( def DEF DEFS", "": ")"},
	"DEF":      {"": "NEW { ( NAMES } EXPR )"},
	"NAMES":    {")": ")", "": "NEW NAMES"},
	"HEAD":     {"let": "let { ( BIND BINDS } EXPR )e", "letrec": "letrec { ( BIND BINDS } EXPR )e", "con": "con TAG FIELDS", "case": "case EXPR { BRANCH BRANCHES", "": "EXPR EXPR ARGS"},
	"BIND":     {"": "( NEW EXPR )"},
	"BINDS":    {")": ")", "": "BIND BINDS"},
	"ARGS":     {")": ")e", "": "EXPR ARGS"},
	"BRANCH":   {"": "( NEWTAG { ( NAMES } EXPR )"},
	"BRANCHES": {")": "} )e", "": "BRANCH BRANCHES"},
}

type reading struct {
	text  string
	spots [][]int
	stack []string
	sets  []map[string]bool
}

// next is the piece that is next, and its place.
func (r *reading) next() (string, int) {
	if len(r.spots) == 0 {
		return "", len(r.text)
	}
	return r.text[r.spots[0][0]:r.spots[0][1]], r.spots[0][0]
}

// become puts symbols in the place of the top one.
func (r *reading) become(symbols string) {
	l := strings.Fields(symbols)
	slices.Reverse(l)
	r.stack = append(r.stack, l...)
}

// read tells the first fault of the text's form.
func read(text string) (api.Errno, int) {
	if len(text) > api.MaxText {
		return api.ErrLong, 0
	}
	r := &reading{text: text, spots: pieces.FindAllStringIndex(text, -1), stack: []string{"TEXT"}}
	for len(r.stack) > 0 {
		top := r.stack[len(r.stack)-1]
		r.stack = r.stack[:len(r.stack)-1]
		if e := r.symbol(top); e != api.OK {
			_, at := r.next()
			return e, at
		}
	}
	return api.OK, 0
}

func (r *reading) symbol(top string) api.Errno {
	s, _ := r.next()
	switch {
	case top == "{":
		r.sets = append(r.sets, map[string]bool{})
	case top == "}":
		r.sets = r.sets[:len(r.sets)-1]
	case top == "EXPR" && s == "(":
		if r.nest() >= api.MaxNest {
			return api.ErrDeep
		}
		r.become("( HEAD")
	case top == "HEAD" && slices.Contains(ops, s):
		r.become(s + " EXPR EXPR )e")
	case strings.HasPrefix(top, "FIELDS"):
		return r.field(top, s)
	case rules[top] != nil:
		rule, ok := rules[top][s]
		if !ok {
			rule = rules[top][""]
		}
		r.become(rule)
	default:
		return r.word(top, s)
	}
	return api.OK
}

// nest is how many Exprs are open: each has one symbol on the stack that ends it.
func (r *reading) nest() int {
	n := 0
	for _, s := range r.stack {
		if s == ")e" || s == "ARGS" || s == "BRANCHES" || strings.HasPrefix(s, "FIELDS") {
			n++
		}
	}
	return n
}

// field: FIELDS with a stroke for each field that there is already.
func (r *reading) field(top, s string) api.Errno {
	if s == ")" {
		r.become(")e")
	} else if len(top) == len("FIELDS")+api.MaxArity {
		return api.ErrDeep
	} else {
		r.become("EXPR " + top + "'")
	}
	return api.OK
}

// word holds a piece against what must stand there.
func (r *reading) word(top, s string) api.Errno {
	good := false
	switch top {
	case "NAME", "NEW":
		good = nameLike(s)
	case "ARITY":
		good = numberLike(s, 0, api.MaxArity)
	case "TAG", "NEWTAG":
		good = numberLike(s, 0, 255)
	case "EXPR":
		good = nameLike(s) || numberLike(s, -1<<63, 1<<63-1)
	case "END":
		good = s == ""
	default:
		good = s == strings.TrimSuffix(top, "e") && top[0] == ')' || s == top
	}
	if !good {
		return api.ErrSyntax
	}
	if top == "NEW" || top == "NEWTAG" {
		set := r.sets[len(r.sets)-1]
		if set[s] {
			return api.ErrTwice
		}
		set[s] = true
	}
	if len(r.spots) > 0 {
		r.spots = r.spots[1:]
	}
	return api.OK
}

// node is a word, or what stands in brackets.
type node struct {
	at   int
	word string
	in   []node
}

// nodes cuts a text of good form.
func nodes(text string) []node {
	open := [][]node{nil}
	for _, at := range pieces.FindAllStringIndex(text, -1) {
		switch s := text[at[0]:at[1]]; s {
		case "(":
			open = append(open, nil)
		case ")":
			n := node{in: open[len(open)-1]}
			open = open[:len(open)-1]
			open[len(open)-1] = append(open[len(open)-1], n)
		default:
			open[len(open)-1] = append(open[len(open)-1], node{at: at[0], word: s})
		}
	}
	return open[0]
}

type wrongs map[int]api.Errno

// names tells the fault with the least place of a text of good form.
func names(text string) (api.Errno, int) {
	w := wrongs{}
	items := nodes(text)[0].in[2:]
	known := map[string]bool{}
	for _, i := range items {
		known[i.in[1].word] = true
	}
	for _, i := range items {
		if i.in[0].word == "def" {
			w.inside(i.in[3], i.in[2].in, nil, known)
		}
	}
	for at := range len(text) {
		if w[at] != api.OK {
			return w[at], at
		}
	}
	return api.OK, 0
}

// inside looks at an Expr in which more names are known than around it.
func (w wrongs) inside(e node, more []node, outer []string, known map[string]bool) {
	inner := slices.Clone(outer)
	for _, n := range more {
		inner = append(inner, n.word)
		if len(inner) > api.MaxArity {
			w[n.at] = api.ErrDeep
		}
	}
	w.expr(e, inner, known)
}

func (w wrongs) expr(e node, inner []string, known map[string]bool) {
	if len(e.in) == 0 {
		if nameLike(e.word) && !known[e.word] && !slices.Contains(inner, e.word) {
			w[e.at] = api.ErrName
		}
		return
	}
	rest := e.in
	switch head := e.in[0].word; {
	case head == "let" || head == "letrec":
		var more []node
		for _, b := range e.in[1].in {
			more = append(more, b.in[0])
		}
		for _, b := range e.in[1].in {
			if head == "let" {
				w.expr(b.in[1], inner, known)
			} else {
				w.inside(b.in[1], more, inner, known)
			}
		}
		w.inside(e.in[2], more, inner, known)
		return
	case head == "case":
		w.expr(e.in[1], inner, known)
		for _, b := range e.in[2:] {
			w.inside(b.in[2], b.in[1].in, inner, known)
		}
		return
	case head == "con":
		rest = e.in[2:]
	case slices.Contains(ops, head):
		rest = e.in[1:]
	}
	for _, x := range rest {
		w.expr(x, inner, known)
	}
}

// faultOf tells what is wrong with a text.
func faultOf(text string) (api.Errno, int) {
	if e, at := read(text); e != api.OK {
		return e, at
	}
	return names(text)
}
