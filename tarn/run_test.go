package tarn

import (
	"fmt"
	"math"
	"math/rand"
	"strconv"
	"strings"
	"sync"
	"testing"

	"tarn/api"
)

// linked is the image of objects, with the entry main.
func linked(t *testing.T, l ...api.Object) *Image {
	t.Helper()
	i, e, at := Link(l, "main")
	if i == nil || e != api.OK || at != 0 {
		t.Fatalf("P8: Link(%+v) = %d, %d", l, e, at)
	}
	return i
}

// of is an outcome, as the tests write it.
func of(kind int, text string, steps, cells int) api.Outcome {
	return api.Outcome{Kind: kind, Text: text, Steps: steps, Cells: cells}
}

// runs looks how main of these globals goes; with just as much as it needs,
// with less fuel, and with fewer cells.
func runs(t *testing.T, want api.Outcome, globals ...string) {
	t.Helper()
	i := linked(t, module("m", nil, globals...))
	for _, most := range []int{api.MaxFuel, math.MaxInt} {
		if got := i.Run(most, most); got != want {
			t.Errorf("P9: %q: %+v, want %+v", globals, got, want)
			return
		}
	}
	if got := i.Run(want.Steps, want.Cells); got != want {
		t.Errorf("P9: %q with just so much: %+v, want %+v", globals, got, want)
	}
	made := 0
	for fuel := range want.Steps {
		got := i.Run(fuel, want.Cells)
		if got.Cells < made || got.Cells > want.Cells || got != of(api.OfFuel, "", fuel, got.Cells) {
			t.Errorf("P9: %q with %d steps: %+v", globals, fuel, got)
		}
		made = got.Cells
	}
	for cells := range want.Cells {
		got := i.Run(want.Steps, cells)
		if got.Cells > cells || got.Steps > want.Steps || got != of(api.OfCells, "", got.Steps, got.Cells) {
			t.Errorf("P9: %q with %d cells: %+v", globals, cells, got)
		}
	}
}

// Steps are told in the tests below as: the look at main; the instructions;
// what comes of Unwind; and telling.

func TestRunStack(t *testing.T) {
	runs(t, of(api.OfValue, "7", 1+3+2+1, 1), "main! 0 Int 7 Update Unwind")
	runs(t, of(api.OfValue, "-7", 1+3+2+1, 1), "main! 0 Int -7 Update Unwind")
	runs(t, of(api.OfValue, "-9223372036854775808", 1+3+2+1, 1), "main! 0 Int -9223372036854775808 Update Unwind")
	runs(t, of(api.OfValue, "7", 1+3+1+1, 1), "main! 0 Int 7 Slide 1 Unwind")
	runs(t, of(api.OfValue, "7", 1+3+1+1, 1), "main! 0 Pop 1 Int 7 Unwind")
	runs(t, of(api.OfValue, "3", 1+6+2+1, 3), "main! 0 Int 1 Int 2 Int 3 Slide 2 Update Unwind")
	runs(t, of(api.OfValue, "1", 1+6+1+1, 3), "main! 0 Int 1 Int 2 Int 3 Pop 2 Slide 1 Unwind")
	runs(t, of(api.OfValue, "1", 1+6+2+1, 1), "main! 0 Pop 0 Int 1 Pop 0 Slide 0 Update Unwind")
	runs(t, of(api.OfValue, "-3", 1+7+2+1, 3), "main! 0 Int 5 Int 2 Push 1 Sub Slide 1 Update Unwind")
	runs(t, of(api.OfValue, "2", 1+7+1+1, 3), "main! 0 Int 5 Int 3 Push 1 Push 1 Sub Slide 3 Unwind")
	runs(t, of(api.OfValue, "6", 1+4+2+1, 1), "main! 0 Jump 3 Int 5 Fail Int 6 Update Unwind")
	runs(t, of(api.OfValue, "4", 1+5+2+1, 1), "main! 0 Jump 4 Int 4 Update Unwind Jump 1")
	// Holes that become Inds, of Inds too.
	runs(t, of(api.OfValue, "5", 1+6+3+1, 3), "main! 0 Alloc 2 Int 5 Update 1 Pop 1 Update Unwind")
	runs(t, of(api.OfValue, "9", 1+7+3+1, 3), "main! 0 Alloc 2 Int 9 Update 1 Push 1 Update Slide 2 Unwind")
	// Nothing is left of the stack when the machine stops.
	runs(t, of(api.OfMatch, "", 1+2, 0), "main! 0 Pop 1 Fail")
	runs(t, of(api.OfKind, "", 1+4, 2), "main! 0 Pop 1 Pack 0 Int 1 Add Unwind")
}

// first and second give the first and second of their args: four instructions, and a look at the Ind.
const (
	first  = "f 1 Push 0 Update 1 Pop 1 Unwind"
	second = "f 2 Push 1 Update 2 Pop 2 Unwind"
)

func TestRunCalls(t *testing.T) {
	runs(t, of(api.OfValue, "7", 1+5+3+5+1+1, 2), first, "main! 0 Int 7 Glob 0 Ap Update Unwind")
	// The arg of the App that is nearest to the global is on the top.
	runs(t, of(api.OfValue, "3", 1+7+4+5+1+1, 4), second, "main! 0 Int 3 Int 9 Glob 0 Ap Ap Update Unwind")
	runs(t, of(api.OfValue, "6", 1+7+4+10+2+1, 5), "f 2 Push 0 Eval Push 2 Eval Sub Update 2 Pop 2 Unwind", "main! 0 Int 3 Int 9 Glob 0 Ap Ap Update Unwind")
	runs(t, of(api.OfValue, "(9 1 2 3)", 1+9+5+3+2+1+6, 7), "f 3 Pack 2307 Update Unwind", "main! 0 Int 3 Int 2 Int 1 Glob 0 Ap Ap Ap Update Unwind")
	// Args that are over.
	runs(t, of(api.OfValue, "7", 1+7+4+5+1+5+1+1, 3), first, "main! 0 Int 7 Glob 0 Glob 0 Ap Ap Update Unwind")
	// Fewer args: the lowest cell is the value, and can be called.
	runs(t, of(api.OfValue, "fun", 1+3+2+1, 0), first, "main! 0 Glob 0 Update Unwind")
	runs(t, of(api.OfValue, "fun", 1+5+3+1, 2), second, "main! 0 Int 2 Glob 0 Ap Update Unwind")
	runs(t, of(api.OfValue, "1", 1+8+2+4+5+1+1, 4), second, "main! 0 Int 1 Int 2 Glob 0 Ap Eval Ap Update Unwind")
	ints := ""
	for k := range 20 {
		ints += " Int " + strconv.Itoa(20-k)
	}
	runs(t, of(api.OfValue, "20", 1+43+22+5+1+1, 40), "f 20 Push 19 Update 20 Pop 20 Unwind", "main! 0"+ints+" Glob 0"+strings.Repeat(" Ap", 20)+" Update Unwind")
	runs(t, of(api.OfValue, "1", 1+43+22+5+1+1, 40), "f 20 Push 0 Update 20 Pop 20 Unwind", "main! 0"+ints+" Glob 0"+strings.Repeat(" Ap", 20)+" Update Unwind")
	runs(t, of(api.OfValue, "fun", 1+42+20+1, 39), "f 20 Fail", "main! 0"+ints+" Glob 0"+strings.Repeat(" Ap", 19)+" Slide 2 Unwind")
	// A global without params is worked out once; what it gives may be called.
	runs(t, of(api.OfValue, "10", 1+7+6+2+2+1, 2), "f 0 Int 5 Update Unwind", "main! 0 Glob 0 Eval Glob 0 Eval Add Update Unwind")
	runs(t, of(api.OfValue, "7", 1+5+3+3+2+5+1+1, 2), "f 0 Glob 1 Update Unwind", "g 1 Push 0 Update 1 Pop 1 Unwind", "main! 0 Int 7 Glob 0 Ap Update Unwind")
	// A global's cell is written into as any other.
	runs(t, of(api.OfValue, "8", 1+6+2+1, 1), first, "main! 0 Int 8 Glob 0 Push 1 Update Slide 2 Unwind")
	runs(t, of(api.OfValue, "(0 8 8)", 1+8+1+1+6, 2), first, "main! 0 Int 8 Glob 0 Push 1 Update Glob 0 Pack 2 Slide 2 Unwind")
}

// TestRunWrittenApp: f's code writes into the App that waits under its own, which has f's call and an arg.
func TestRunWrittenApp(t *testing.T) {
	main := "main! 0 Alloc 1 Int 9 Push 1 Glob 0 Ap Ap Push 0 Pack 1 Update 1 Slide 1 Update Unwind"
	write := "f 1 Push 0 Eval Split 1 Int 5 Update "
	runs(t, of(api.OfKind, "", 1+12+4+7+3+1, 6), main, write+"Glob 1 Slide 3 Unwind", "g 1 Fail")
	runs(t, of(api.OfValue, "fun", 1+12+4+7+3+1+1, 6), main, write+"Glob 1 Slide 3 Unwind", "g 2 Fail")
	runs(t, of(api.OfMatch, "", 1+12+4+7+3+1+1, 6), main, write+"Glob 1 Slide 3 Unwind", "g 0 Fail")
	runs(t, of(api.OfApply, "", 1+12+4+7+3+1, 7), main, write+"Int 4 Slide 3 Unwind", "g 1 Fail")
}

func TestRunRecords(t *testing.T) {
	runs(t, of(api.OfValue, "(3 6 5)", 1+5+2+1+4, 3), "main! 0 Int 5 Int 6 Pack 770 Update Unwind")
	runs(t, of(api.OfValue, "(255)", 1+3+2+1, 1), "main! 0 Pack 65280 Update Unwind")
	runs(t, of(api.OfValue, "(2 6 (1 5))", 1+6+2+1+2+2+2, 4), "main! 0 Int 5 Pack 257 Int 6 Pack 514 Update Unwind")
	runs(t, of(api.OfValue, "(1 fun)", 1+4+2+1+2, 1), first, "main! 0 Glob 0 Pack 257 Update Unwind")
	// A field is worked out as it is told, and once: here it is two of the fields.
	runs(t, of(api.OfValue, "(0 7 7)", 1+7+2+1+9+3, 3), first, "main! 0 Int 7 Glob 0 Ap Push 0 Pack 2 Update Unwind")
	// The first field is on the top.
	runs(t, of(api.OfValue, "-1", 1+7+2+1, 4), "main! 0 Int 5 Int 6 Pack 770 Split 2 Sub Update Unwind")
	runs(t, of(api.OfValue, "(2 3 2 1)", 1+8+2+1+6, 5), "main! 0 Int 1 Int 2 Int 3 Pack 3 Split 3 Pack 515 Update Unwind")
	runs(t, of(api.OfValue, "3", 1+5+2+1, 2), "main! 0 Pack 256 Split 0 Int 3 Update Unwind")
	many := "Int 1" + strings.Repeat(" Push 0", 254)
	runs(t, of(api.OfValue, "(0"+strings.Repeat(" 1", 255)+")", 1+260+2+1+510, 3), "main! 0 "+many+" Pack 255 Split 255 Pack 255 Update Unwind")
	// Telling a record goes on with its fields, though its cell was written into by the first one's work.
	runs(t, of(api.OfValue, "(0 5 7)", 1+11+1+1+2+9+2+2+1+2, 6), "f 1 Push 0 Eval Split 1 Int 5 Push 0 Update 1 Update 2 Pop 2 Unwind", "main! 0 Alloc 1 Int 7 Push 1 Glob 0 Ap Pack 2 Push 0 Pack 1 Update 1 Slide 2 Unwind")
}

func TestRunCases(t *testing.T) {
	runs(t, of(api.OfValue, "(1)", 1+4+2+1, 1), "main! 0 Pack 256 Case 0:2 1:3 Fail Update Unwind")
	all := " Case"
	for tag := range 256 {
		all += fmt.Sprintf(" %d:%d", tag, 2+(tag+1)%256)
	}
	for _, tag := range []int{0, 1, 127, 128, 254, 255} {
		o := module("m", nil, "main! 0 Pack "+strconv.Itoa(tag*256)+all)
		for k := range 256 { // a Jump of each tag's own, to a place where its number is put
			o.Globals[0].Code = append(o.Globals[0].Code, ins(api.Jump, 258+3*k))
		}
		for k := range 256 {
			o.Globals[0].Code = append(o.Globals[0].Code, ins(api.Int, (k+255)%256), ins(api.Slide, 2), unwind)
		}
		if got := linked(t, o).Run(100, 100); got != of(api.OfValue, strconv.Itoa(tag), 1+6+1+1, 2) {
			t.Errorf("P9: a Case with all tags, of %d: %+v", tag, got)
		}
	}
}

// TestRunOps: each op, of numbers that wrap round, too.
func TestRunOps(t *testing.T) {
	const least, most = math.MinInt, math.MaxInt
	for _, c := range []struct {
		op   string
		l, r int
		want string
	}{
		{"Add", 1, 2, "3"}, {"Add", most, 1, "-9223372036854775808"}, {"Add", least, least, "0"}, {"Add", least, most, "-1"}, {"Add", -5, 3, "-2"},
		{"Sub", 1, 2, "-1"}, {"Sub", least, 1, "9223372036854775807"}, {"Sub", 0, least, "-9223372036854775808"}, {"Sub", 7, 7, "0"},
		{"Mul", 3, -4, "-12"}, {"Mul", most, 2, "-2"}, {"Mul", least, -1, "-9223372036854775808"}, {"Mul", 1 << 32, 1 << 32, "0"}, {"Mul", 3037000500, 3037000500, "-9223372036709301616"},
		{"Div", 7, 2, "3"}, {"Div", -7, 2, "-3"}, {"Div", 7, -2, "-3"}, {"Div", -7, -2, "3"}, {"Div", least, -1, "-9223372036854775808"}, {"Div", least, 1, "-9223372036854775808"}, {"Div", 0, 5, "0"}, {"Div", most, least, "0"},
		{"Same", 1, 1, "(1)"}, {"Same", 1, 2, "(0)"}, {"Same", least, most, "(0)"}, {"Same", least, least, "(1)"}, {"Same", 0, 0, "(1)"},
		{"Less", 1, 2, "(1)"}, {"Less", 2, 1, "(0)"}, {"Less", 2, 2, "(0)"}, {"Less", least, most, "(1)"}, {"Less", most, least, "(0)"}, {"Less", -1, 0, "(1)"},
	} {
		runs(t, of(api.OfValue, c.want, 1+5+2+1, 3), fmt.Sprintf("main! 0 Int %d Int %d %s Update Unwind", c.l, c.r, c.op))
	}
	for _, op := range strings.Fields("Add Sub Mul Div Same Less") {
		for _, c := range []struct {
			code         string
			steps, cells int
		}{
			{"Int 1 Glob 0", 4, 1}, {"Glob 0 Int 0", 4, 1}, {"Pack 0 Int 0", 4, 2}, {"Int 0 Pack 0", 4, 2}, {"Glob 0 Glob 0", 4, 0}, {"Pack 0 Pack 0", 4, 2},
			{"Int 1 Alloc 1", 4, 2}, {"Int 1 Int 1 Glob 0 Ap", 6, 3}, {"Alloc 1 Int 5 Update Int 1", 6, 3}, {"Int 1 Alloc 1 Int 5 Update", 6, 3}, // nothing is worked out by the op itself
		} {
			runs(t, of(api.OfKind, "", c.steps, c.cells), first, "main! 0 "+c.code+" "+op+" Fail")
		}
	}
	runs(t, of(api.OfZero, "", 1+3, 2), "main! 0 Int 1 Int 0 Div Fail")
	runs(t, of(api.OfZero, "", 1+3, 2), "main! 0 Int 0 Int 0 Div Fail")
	runs(t, of(api.OfZero, "", 1+3, 2), "main! 0 Int -9223372036854775808 Int 0 Div Fail")
}

func TestRunErrors(t *testing.T) {
	// KIND
	runs(t, of(api.OfKind, "", 1+2, 1), "main! 0 Int 1 Case 1:2 Fail")
	runs(t, of(api.OfKind, "", 1+2, 0), first, "main! 0 Glob 0 Case 0:2 Fail")
	runs(t, of(api.OfKind, "", 1+2, 1), "main! 0 Alloc 1 Case 0:2 Fail")
	runs(t, of(api.OfKind, "", 1+2, 1), "main! 0 Int 5 Split 0 Fail")
	runs(t, of(api.OfKind, "", 1+2, 0), first, "main! 0 Glob 0 Split 0 Fail")
	runs(t, of(api.OfKind, "", 1+2, 1), "main! 0 Pack 256 Split 1 Fail")
	runs(t, of(api.OfKind, "", 1+3, 2), "main! 0 Int 1 Pack 257 Split 0 Fail")
	runs(t, of(api.OfKind, "", 1+3, 2), "main! 0 Int 1 Pack 257 Split 2 Fail")
	// MATCH
	runs(t, of(api.OfMatch, "", 1+1, 0), "main! 0 Fail")
	runs(t, of(api.OfMatch, "", 1+2, 1), "main! 0 Pack 512 Case 0:2 1:2 3:2 255:2 Fail")
	// APPLY: what is called, but is no function
	runs(t, of(api.OfApply, "", 1+5+3, 3), "main! 0 Int 2 Int 1 Ap Update Unwind")
	runs(t, of(api.OfApply, "", 1+5+3, 3), "main! 0 Int 2 Pack 256 Ap Update Unwind")
	runs(t, of(api.OfApply, "", 1+5+3+3+2, 3), "f 0 Int 5 Update Unwind", "main! 0 Int 2 Glob 0 Ap Update Unwind")
	runs(t, of(api.OfApply, "", 1+7+4+5+1, 4), first, "main! 0 Int 1 Int 2 Glob 0 Ap Ap Update Unwind")
	runs(t, of(api.OfApply, "", 1+4+2, 3), "main! 0 Int 2 Int 1 Ap Eval Fail")
	// What waits on the dump does not count as being under it.
	runs(t, of(api.OfValue, "3", 1+6+1+2+1, 3), "main! 0 Int 1 Int 2 Eval Add Update Unwind")
	// LOOP
	runs(t, of(api.OfLoop, "", 1+3+2, 1), "main! 0 Alloc 1 Update Unwind")
	runs(t, of(api.OfLoop, "", 1+2+1, 1), "main! 0 Alloc 1 Eval Fail")
	runs(t, of(api.OfLoop, "", 1+4+2, 3), "main! 0 Int 1 Alloc 1 Ap Eval Fail")
	runs(t, of(api.OfLoop, "", 1+4+1+1+1, 2), "main! 0 Alloc 1 Pack 257 Slide 1 Unwind")
	// Of an error in a field nothing of the text is told.
	runs(t, of(api.OfZero, "", 1+7+1+1+2+2+3, 6), "f 1 Int 1 Int 0 Div Update 1 Pop 1 Unwind", "main! 0 Int 0 Glob 0 Ap Int 4 Pack 2 Slide 1 Unwind")
}

// wide is a main whose value is a record with the tag 0 and fields: numbers
// that have so many digits, and behind them what the last instructions put.
func wide(digits []int, last ...string) api.Object {
	main := "main! 0"
	for k := range last {
		main += " " + last[len(last)-1-k]
	}
	for k := range digits {
		main += " Int 1" + strings.Repeat("0", digits[len(digits)-1-k]-1)
	}
	return module("m", nil, first, main+fmt.Sprintf(" Pack %d Slide 1 Unwind", len(digits)+len(last)))
}

// TestRunText: at MaxOut bytes, and one more, by each kind of piece.
func TestRunText(t *testing.T) {
	// (0, a blank and 18 digits each, and how many bytes more are left
	full := func(left int) []int {
		var l []int
		n := api.MaxOut - len("(0") - left
		for ; n >= 38; n -= 19 {
			l = append(l, 18)
		}
		return append(l, n/2-1, n-n/2-1)
	}
	for _, c := range []struct {
		what  string
		left  int
		last  []string
		kind  int
		looks int // at what is behind the numbers, and telling it
	}{
		{"a bracket that fits", 1, nil, api.OfValue, 0},
		{"a bracket too many", 0, nil, api.OfText, 0},
		{"a blank too many, and what is behind it is not worked out", 0, []string{"Alloc 1"}, api.OfText, 0},
		{"a blank that fits", 1, []string{"Alloc 1"}, api.OfLoop, 1},
		{"digits that fit", 5, []string{"Int 123"}, api.OfValue, 2},
		{"digits, and no bracket", 4, []string{"Int 123"}, api.OfText, 2},
		{"a digit too many", 3, []string{"Int 123"}, api.OfText, 2},
		{"digits and a sign", 6, []string{"Int -123"}, api.OfValue, 2},
		{"fun that fits", 5, []string{"Glob 0"}, api.OfValue, 2},
		{"fun too many", 3, []string{"Glob 0"}, api.OfText, 2},
		{"a record that fits", 7, []string{"Pack 65280"}, api.OfValue, 2},
		{"a record, and no bracket", 5, []string{"Pack 65280"}, api.OfText, 2},
		{"a tag too many", 4, []string{"Pack 65280"}, api.OfText, 2},
		{"what is behind is not worked out", 3, []string{"Int 123", "Alloc 1"}, api.OfText, 2},
	} {
		digits := full(c.left)
		o := wide(digits, c.last...)
		n := len(digits) + len(c.last)
		i := linked(t, o)
		got := i.Run(api.MaxFuel, api.MaxCells)
		steps := 1 + n + 3 + 1 + 1 + 2*len(digits) + c.looks
		if got.Kind != c.kind || got.Steps != steps || (got.Text != "") != (c.kind == api.OfValue) {
			t.Errorf("P9: %s: %+v, want %d in %d steps", c.what, got, c.kind, steps)
		}
		if c.kind == api.OfValue && len(got.Text) != api.MaxOut {
			t.Errorf("P9: %s: %d bytes", c.what, len(got.Text))
		}
		if less := i.Run(steps-1, api.MaxCells); less != of(api.OfFuel, "", steps-1, got.Cells) {
			t.Errorf("P9: %s, with less fuel: %+v", c.what, less)
		}
	}
	// (1 and a blank, 666 times and (1 once are MaxOut bytes.
	runs(t, of(api.OfText, "", 1+6+3+1+666*3, 2), "main! 0 Alloc 1 Push 0 Pack 257 Update Update Unwind")
}

// TestRunLimits: fuel and cells below 0 and above the most.
func TestRunLimits(t *testing.T) {
	endless := linked(t, module("m", nil, "main! 0 Unwind"))
	for fuel, want := range map[int]int{math.MinInt: 0, -1: 0, 0: 0, 1: 1, 2: 2, 99: 99, api.MaxFuel - 1: api.MaxFuel - 1, api.MaxFuel: api.MaxFuel, api.MaxFuel + 1: api.MaxFuel, math.MaxInt: api.MaxFuel} {
		for _, cells := range []int{-1, 0, math.MaxInt} {
			if got := endless.Run(fuel, cells); got != of(api.OfFuel, "", want, 0) {
				t.Errorf("P9: fuel %d, cells %d: %+v", fuel, cells, got)
			}
		}
	}
	hungry := linked(t, module("m", nil, "main! 0 Pop 1 Alloc 1000 Pop 1000 Jump 1"))
	for cells, rounds := range map[int]int{math.MinInt: 0, -1: 0, 0: 0, 1: 0, 999: 0, 1000: 1, 1999: 1, 2000: 2, api.MaxCells - 1: 1999, api.MaxCells: 2000, api.MaxCells + 1000: 2000, math.MaxInt: 2000} {
		if got := hungry.Run(api.MaxFuel, cells); got != of(api.OfCells, "", 2+3*rounds+1, 1000*rounds) {
			t.Errorf("P9: cells %d: %+v", cells, got)
		}
		// An instruction that there is no fuel for is not done, whatever it would make.
		if got := hungry.Run(2+3*rounds, cells); got != of(api.OfFuel, "", 2+3*rounds, 1000*rounds) {
			t.Errorf("P9: cells %d, with less fuel: %+v", cells, got)
		}
	}
	if got := hungry.Run(0, 0); got != of(api.OfFuel, "", 0, 0) {
		t.Errorf("P9: nothing: %+v", got)
	}
}

// TestRunCellsOf: how many new cells each instruction makes, and that it makes none of them if they are not left.
func TestRunCellsOf(t *testing.T) {
	for _, c := range []struct {
		ahead, ins string
		made, more int // ahead of it, and by it
	}{
		{"", "Int 1", 0, 1}, {"", "Glob 0", 0, 0}, {"", "Push 0", 0, 0}, {"Int 1 Glob 0", "Ap", 1, 1}, {"Int 1", "Slide 1", 1, 0}, {"Int 1 Int 2", "Update", 2, 0}, {"Int 1", "Pop 1", 1, 0}, {"", "Alloc 1", 0, 1}, {"", "Alloc 998", 0, 998}, {"Int 1", "Eval", 1, 0},
		{"Int 1 Int 2", "Add", 2, 1}, {"Int 1 Int 2", "Sub", 2, 1}, {"Int 1 Int 2", "Mul", 2, 1}, {"Int 1 Int 2", "Div", 2, 1}, {"Int 1 Int 2", "Same", 2, 1}, {"Int 1 Int 2", "Less", 2, 1},
		{"", "Pack 256", 0, 1}, {"Int 1 Int 2", "Pack 2", 2, 1}, {"Pack 256", "Split 0", 1, 0}, {"Int 1 Int 2 Pack 2", "Split 2", 3, 0}, {"Pack 0", "Case 0:2", 1, 0}, {"", "Jump 1", 0, 0},
	} {
		i := linked(t, module("m", nil, first, "main! 0 "+c.ahead+" "+c.ins+" Fail"))
		whole := i.Run(100, 2000)
		if whole.Kind != api.OfMatch || whole.Cells != c.made+c.more {
			t.Errorf("P9: %s: %+v, want %d cells", c.ins, whole, c.made+c.more)
		}
		if c.more == 0 {
			continue
		}
		if got := i.Run(100, c.made+c.more-1); got != of(api.OfCells, "", whole.Steps-1, c.made) {
			t.Errorf("P9: %s with too few cells: %+v", c.ins, got)
		}
	}
}

// TestRunAgain: a run leaves an image as it was, however it ended; runs at the same time, too.
func TestRunAgain(t *testing.T) {
	i := linked(t, module("m", nil, "f 0 Int 5 Update Unwind", "g 1 Push 0 Update 1 Pop 1 Unwind", "main! 0 Glob 1 Int 3 Update Glob 1 Glob 0 Pack 2 Update 1 Pop 1 Unwind"))
	full := i.Run(1000, 1000)
	if full.Kind != api.OfValue || full.Text != "(0 5 3)" {
		t.Fatalf("P9: %+v", full)
	}
	for fuel := range full.Steps {
		i.Run(fuel, 1000)
		i.Run(1000, fuel%full.Cells)
		if got := i.Run(1000, 1000); got != full {
			t.Fatalf("P2: behind a run with fuel %d: %+v, want %+v", fuel, got, full)
		}
	}
	var all sync.WaitGroup
	outcomes := make([]api.Outcome, 16)
	for k := range outcomes {
		all.Go(func() { outcomes[k] = i.Run(1000, 1000) })
	}
	all.Wait()
	for _, got := range outcomes {
		if got != full {
			t.Errorf("P2: of runs at the same time: %+v, want %+v", got, full)
		}
	}
}

// TestRunDeep: long rows of calls, and many stacks on the dump.
func TestRunDeep(t *testing.T) {
	for text, want := range map[string]string{
		"(module m (def main () (sum 20000)) (def sum (n) (case (= n 0) (1 () 0) (0 () (+ n (sum (- n 1)))))))":                                                                                "200010000",
		"(module m (def main () (loop 20000 0)) (def loop (n a) (case (= n 0) (1 () a) (0 () (loop (- n 1) (+ a n))))))":                                                                       "200010000",
		"(module m (def main () (grow 20000 i 7)) (def i (x) x) (def grow (n f) (case (= n 0) (1 () f) (0 () (grow (- n 1) (f i))))))":                                                         "7",
		"(module m (def main () (let ((l (upto 0))) (nth 9000 l))) (def upto (n) (con 1 n (upto (+ n 1)))) (def nth (n l) (case l (1 (h t) (case (= n 0) (1 () h) (0 () (nth (- n 1) t)))))))": "9000",
	} {
		if got := linked(t, compiled(t, text)).Run(api.MaxFuel, api.MaxCells); got.Kind != api.OfValue || got.Text != want {
			t.Errorf("P9: %s: %+v", text, got)
		}
	}
	// A stack for each Eval, till there is no fuel any more.
	for _, code := range []string{"Glob 1 Eval Fail", "Glob 0 Glob 0 Ap Eval Fail", "Int 1 Push 0 Push 0 Glob 1 Eval Fail"} {
		if got := linked(t, module("m", nil, "f 0 Glob 0 Eval Fail", "main! 0 "+code)).Run(api.MaxFuel, api.MaxCells); got.Kind != api.OfFuel || got.Steps != api.MaxFuel {
			t.Errorf("P9: %s: %+v", code, got)
		}
	}
	// f x is (f x) x: the row of Apps under f's own cells grows with each call.
	row := linked(t, module("m", nil, "f 1 Push 0 Push 1 Glob 0 Ap Ap Slide 2 Unwind", "main! 0 Int 1 Glob 0 Ap Slide 1 Unwind"))
	if got := row.Run(api.MaxFuel, api.MaxCells); got.Kind != api.OfFuel || got.Steps != api.MaxFuel {
		t.Errorf("P9: a row of Apps: %+v", got)
	}
}

// TestRunWhateverIsSound: code by chance, of which only what is sound is run.
func TestRunWhateverIsSound(t *testing.T) {
	r := rand.New(rand.NewSource(1))
	seen := map[int]int{}
	for range 60000 {
		l := make([]api.Ins, 2+r.Intn(9))
		for k := range l {
			l[k] = anyIns(r, len(l))
		}
		l[len(l)-1] = ins(api.Unwind+r.Intn(2), 0)
		i, e, _ := Link([]api.Object{one(0, l...)}, "main")
		if e != api.OK {
			continue
		}
		got := i.Run(2000, 500)
		seen[got.Kind]++
		if got.Steps < 0 || got.Steps > 2000 || got.Cells < 0 || got.Cells > 500 || (got.Text == "") == (got.Kind == api.OfValue) || got.Kind == api.OfFuel && got.Steps < 2000 || i.Run(2000, 500) != got {
			t.Fatalf("P9: %+v: %+v", l, got)
		}
	}
	for kind := api.OfValue; kind <= api.OfMatch; kind++ {
		if seen[kind] < 20 {
			t.Errorf("%d of the runs end with %d: these say too little", seen[kind], kind)
		}
	}
}

// TestRunExamples: the document's first examples, compiled, linked and run.
func TestRunExamples(t *testing.T) {
	for text, want := range map[string]api.Outcome{
		"(module m (def main () (+ 1 2)))":                                                            {Text: "3"},
		"(module m (def main () (con 1 (+ 1 2) f)) (def f (x) x))":                                    {Text: "(1 3 fun)"},
		"(module m (def main () (k 1 (/ 1 0))) (def k (x y) x))":                                      {Text: "1"},
		"(module m (def main () (case (con 3 4) (2 (x) x))))":                                         {Kind: api.OfMatch},
		"(module m (def main () (1 2)))":                                                              {Kind: api.OfApply},
		"(module m (def main () (letrec ((l (con 1 7 l))) (case l (1 (h t) (case t (1 (a b) a)))))))": {Text: "7"},
		"(module m (def main () (letrec ((x x)) x)))":                                                 {Kind: api.OfFuel},
	} {
		got := linked(t, compiled(t, text)).Run(api.MaxFuel, api.MaxCells)
		if got.Kind != want.Kind || got.Text != want.Text {
			t.Errorf("P9: %s: %+v, want %+v", text, got, want)
		}
	}
}
