package fault

import (
	"errors"
	"strings"
	"testing"

	"tarn/api"
)

func TestFaultTellsItsPlaceAndWrapsItsKind(t *testing.T) {
	for _, c := range []struct {
		err  error
		kind error
		want api.Place
	}{
		{At(Short, 12), Short, api.Place{At: 12}},
		{In(Depth, 3, 4), Depth, api.Place{Global: 3, At: 4}},
	} {
		if !errors.Is(c.err, c.kind) || errors.Is(c.err, Value) {
			t.Errorf("%v is not just of the kind %v", c.err, c.kind)
		}
		var f Fault
		if !errors.As(c.err, &f) || f.Place != c.want {
			t.Errorf("%v tells the place %+v, want %+v", c.err, f.Place, c.want)
		}
		if !strings.HasPrefix(c.err.Error(), c.kind.Error()) {
			t.Errorf("the text %q does not tell the kind", c.err.Error())
		}
	}
	if got := In(Jump, 3, 4).Error(); !strings.HasSuffix(got, ": global 3, at 4") {
		t.Errorf("the text %q does not tell the place", got)
	}
}
