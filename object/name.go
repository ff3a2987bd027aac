package object

import (
	"slices"
	"strings"

	"tarn/api"
)

// MaxName is how many bytes a name has at most.
const MaxName = 16

// IsName: 1 to MaxName bytes a to z, 0 to 9 and #, the first one a letter.
func IsName(s string) bool {
	if len(s) == 0 || len(s) > MaxName || !isLetter(s[0]) {
		return false
	}
	for i := range len(s) {
		if !isLetter(s[i]) && !isDigit(s[i]) && s[i] != '#' {
			return false
		}
	}
	return true
}

func isLetter(b byte) bool { return 'a' <= b && b <= 'z' }

func isDigit(b byte) bool { return '0' <= b && b <= '9' }

// Imported: whether one of the imports, which stand in order, has this name.
func Imported(imports []api.Import, name string) bool {
	_, found := slices.BinarySearchFunc(imports, name, func(i api.Import, n string) int {
		return strings.Compare(i.Name, n)
	})
	return found
}
