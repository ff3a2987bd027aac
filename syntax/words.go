package syntax

import (
	"strconv"
	"strings"

	"tarn/api"
	"tarn/object"
)

// maxName is how many bytes a name of a text has at most: fewer than an
// object's, so that there is room behind it in names that the compiler makes.
const maxName = 10

// isName: whether this is a name that a text may use.
func isName(s string) bool {
	return object.IsName(s) && len(s) <= maxName && !strings.Contains(s, "#") && !isReserved(s)
}

func isReserved(s string) bool {
	switch s {
	case "module", "import", "def", "let", "letrec", "con", "case":
		return true
	}
	return false
}

// opOf tells the instruction that does an op.
func opOf(s string) (int, bool) {
	switch s {
	case "+":
		return api.Add, true
	case "-":
		return api.Sub, true
	case "*":
		return api.Mul, true
	case "/":
		return api.Div, true
	case "=":
		return api.Same, true
	case "<":
		return api.Less, true
	}
	return 0, false
}

// number reads a number, which is written in just one way.
func number(s string) (int, bool) {
	if !isDigits(strings.TrimPrefix(s, "-")) || s == "-0" {
		return 0, false
	}
	x, err := strconv.ParseInt(s, 10, 64)
	return int(x), err == nil
}

// isDigits: digits, the first one not 0 but in 0 alone.
func isDigits(s string) bool {
	if s == "" || s[0] == '0' && len(s) > 1 {
		return false
	}
	for i := range len(s) {
		if s[i] < '0' || s[i] > '9' {
			return false
		}
	}
	return true
}

// upTo reads a tag or an arity.
func upTo(s string, most int) (int, bool) {
	x, ok := number(s)
	return x, ok && 0 <= x && x <= most
}
