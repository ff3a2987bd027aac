package object

import (
	"strings"
	"testing"

	"tarn/api"
)

func TestIsName(t *testing.T) {
	for _, s := range []string{"a", "z", "a0", "m9#", "a#", strings.Repeat("a", 16)} {
		if !IsName(s) {
			t.Errorf("%q is a name", s)
		}
	}
	for _, s := range []string{"", "0", "#", "#a", "9a", "A", "aB", "a b", "a-", "a_", "a`", "a{", "a/", "a:", "\xe4", "ä", "a\x00", strings.Repeat("a", 17)} {
		if IsName(s) {
			t.Errorf("%q is no name", s)
		}
	}
}

func TestImported(t *testing.T) {
	l := []api.Import{{Name: "b"}, {Name: "b#"}, {Name: "b0"}, {Name: "d"}}
	for _, i := range l {
		if !Imported(l, i.Name) {
			t.Errorf("%q is imported", i.Name)
		}
	}
	for _, s := range []string{"a", "b1", "c", "e"} {
		if Imported(l, s) {
			t.Errorf("%q is not imported", s)
		}
	}
	if Imported(nil, "a") {
		t.Error("nothing is imported from no imports")
	}
}
