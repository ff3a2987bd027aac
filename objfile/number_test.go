package objfile

import (
	"encoding/binary"
	"errors"
	"hash/crc32"
	"math"
	"strings"
	"testing"

	"tarn/fault"
)

func TestSum(t *testing.T) {
	if got := sum("123456789"); got != 0xCBF43926 {
		t.Errorf("the sum of 123456789 is %#x", got)
	}
	if got := sumText("123456789"); got != "\x26\x39\xf4\xcb" {
		t.Errorf("the sum of 123456789 is written %q", got)
	}
	for _, s := range []string{"", "\x00", "\xff", "TARN", strings.Repeat("tarn\x80", 999)} {
		if got, want := sum(s), crc32.ChecksumIEEE([]byte(s)); got != want {
			t.Errorf("the sum of %.20q is %#x, want %#x", s, got, want)
		}
	}
}

func TestNumbersAreWrittenAndRead(t *testing.T) {
	for _, x := range []uint64{0, 1, 127, 128, 129, 16383, 16384, 65535, 65536, 1<<56 - 1, 1 << 56, 1<<63 - 1, 1 << 63, math.MaxUint64} {
		var w writer
		w.number(x)
		if want := string(binary.AppendUvarint(nil, x)); string(w.bytes) != want {
			t.Errorf("%d is written %q, want %q", x, w.bytes, want)
		}
		r := reader{body: string(w.bytes) + "\x01"}
		if got, err := r.number(); got != x || err != nil || r.at != len(w.bytes) {
			t.Errorf("%d is read as %d, %v, up to %d", x, got, err, r.at)
		}
	}
}

func TestWrongNumbers(t *testing.T) {
	nine := strings.Repeat("\x80", 9)
	for _, c := range []struct {
		s    string
		kind error
		at   int
	}{
		{"", fault.Short, 2}, {"\x80", fault.Short, 3}, {nine, fault.Short, 11}, {"\xff\xff", fault.Short, 4},
		{"\x80\x00", fault.Varint, 2}, {"\xff\x80\x00", fault.Varint, 2}, {nine + "\x00", fault.Varint, 2},
		{nine + "\x02", fault.Varint, 2}, {nine + "\x7f", fault.Varint, 2}, {nine + "\x80", fault.Varint, 2}, {nine + "\x81", fault.Varint, 2}, {nine + "\xff\xff\x01", fault.Varint, 2},
	} {
		r := reader{body: "ab" + c.s, at: 2}
		x, err := r.number()
		var f fault.Fault
		if x != 0 || !errors.Is(err, c.kind) || !errors.As(err, &f) || f.Place.At != c.at {
			t.Errorf("%q behind two bytes: %d, %v, want %v at %d", c.s, x, err, c.kind, c.at)
		}
	}
}

func TestFold(t *testing.T) {
	for a, x := range map[int]uint64{0: 0, -1: 1, 1: 2, -2: 3, 7: 14, math.MaxInt: math.MaxUint64 - 1, math.MinInt: math.MaxUint64, math.MinInt + 1: math.MaxUint64 - 2} {
		if got := fold(a); got != x {
			t.Errorf("fold(%d) = %d, want %d", a, got, x)
		}
		if got := unfold(x); got != a {
			t.Errorf("unfold(%d) = %d, want %d", x, got, a)
		}
	}
}

func TestWriterStopsBehindTheLimit(t *testing.T) {
	var w writer
	for range 300000 {
		w.number(math.MaxUint64)
		w.text("abcdefghijklmnop")
	}
	if len(w.bytes) > 100100 {
		t.Errorf("%d bytes were written", len(w.bytes))
	}
}
