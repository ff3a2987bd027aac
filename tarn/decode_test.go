package tarn

import (
	"math/rand"
	"reflect"
	"strings"
	"testing"

	"tarn/api"
)

// wrong looks that Decode tells just this of a file.
func wrong(t *testing.T, what, file string, e api.Errno, at int) {
	t.Helper()
	o, got, place := Decode(file)
	if got != e || place != (api.Place{At: at}) {
		t.Errorf("P5: %s: Decode of %.60q = %d, %+v, want %d at %d", what, file, got, place, e, at)
	}
	if !reflect.DeepEqual(o, api.Object{}) {
		t.Errorf("P1: %s: an object beside an error: %+v", what, o)
	}
}

func TestDecodeWhole(t *testing.T) {
	for _, o := range []api.Object{whole(), {Name: "m"}, one(0, seven, ins(api.Update, 0), unwind), {Name: "m", Imports: []api.Import{{Name: "abcdefghijklmnop", Arity: 20}}}} {
		s, _ := Encode(o)
		if got, e, at := Decode(s); !reflect.DeepEqual(got, o) || e != api.OK || at != (api.Place{}) {
			t.Errorf("P5: Decode gives %+v, %d, %+v, want %+v", got, e, at, o)
		}
	}
	o := long(api.MaxFile)
	s, _ := Encode(o)
	if got, e, at := Decode(s); !reflect.DeepEqual(got, o) || e != api.OK || at != (api.Place{}) {
		t.Errorf("P5: a file of MaxFile bytes: %d, %+v", e, at)
	}
}

func TestDecodeLength(t *testing.T) {
	wrong(t, "empty", "", api.ErrShort, 0)
	wrong(t, "7 bytes", seal("TAR"), api.ErrShort, 7)
	wrong(t, "7 bytes, none of them right", "xxxxxxx", api.ErrShort, 7)
	wrong(t, "8 bytes", seal("TARN"), api.ErrShort, 4)
	wrong(t, "8 bytes, none of them right", "xxxxxxxx", api.ErrSum, 4)
	wrong(t, "MaxFile bytes", strings.Repeat("x", api.MaxFile), api.ErrSum, api.MaxFile-4)
	wrong(t, "MaxFile bytes and the sum", seal(strings.Repeat("x", api.MaxFile-4)), api.ErrForm, 0)
	wrong(t, "one more", strings.Repeat("x", api.MaxFile+1), api.ErrLong, 0)
	wrong(t, "one more, with the sum", seal(wholeBody()+strings.Repeat("\x00", api.MaxFile+1-4-len(wholeBody()))), api.ErrLong, 0)
	wrong(t, "as many as may be, with the sum", seal(wholeBody()+strings.Repeat("\x00", api.MaxFile-4-len(wholeBody()))), api.ErrMore, len(wholeBody()))
}

func TestDecodeSum(t *testing.T) {
	s := seal(wholeBody())
	for k := range len(s) {
		for bit := range 8 {
			b := []byte(s)
			b[k] ^= 1 << bit
			wrong(t, "a bit is turned", string(b), api.ErrSum, len(s)-4)
		}
	}
	wrong(t, "the highest byte first", wholeBody()+string([]byte{s[len(s)-1], s[len(s)-2], s[len(s)-3], s[len(s)-4]}), api.ErrSum, len(s)-4)
	wrong(t, "the sum ahead of the mark", "TERN\x01m\x00\x00\x00\x00\x00\x00", api.ErrSum, 8)
}

// TestDecodeEndsEarly: every file that ends ahead of its last instruction.
func TestDecodeEndsEarly(t *testing.T) {
	s := wholeBody()
	for k := 4; k < len(s); k++ {
		wrong(t, "the first bytes", seal(s[:k]), api.ErrShort, k)
	}
}

func TestDecodeMark(t *testing.T) {
	for k := range 4 {
		b := []byte(wholeBody())
		b[k]++
		wrong(t, "another mark", seal(string(b)), api.ErrForm, k)
		b[3] = 0
		b[len(b)-1] = 0xff
		wrong(t, "the first of its bytes", seal(string(b)), api.ErrForm, k)
	}
	wrong(t, "a mark in small letters", seal("tarn"), api.ErrForm, 0)
}

// TestDecodeNames: of each name that a file has: what may not stand there.
func TestDecodeNames(t *testing.T) {
	for what, c := range map[string][2]string{
		"module": {"TARN", "\x00\x00"}, "import": {"TARN\x01m\x01", "\x00\x00"}, "second import": {"TARN\x01m\x02\x01a\x00", "\x00\x00"},
		"global": {"TARN\x01m\x00\x01", "\x00\x00\x01\x14"}, "second global": {"TARN\x01m\x00\x02\x01a\x00\x00\x01\x14", "\x00\x00\x01\x14"},
	} {
		ahead, behind := c[0], c[1]
		at := len(ahead)
		for _, name := range []string{"b", "b0#z", "bbbbbbbbbbbbbbbb"} {
			if _, e, place := Decode(seal(ahead + number(uint64(len(name))) + name + behind)); e != api.OK {
				t.Errorf("P5: %s %q: %d, %+v", what, name, e, place)
			}
		}
		for _, name := range []string{"", "B", "0", "#", "bB", "b\x00", "b b", "b\x80", "bbbbbbbbbbbbbbbbb", strings.Repeat("b", 200)} {
			wrong(t, what, seal(ahead+number(uint64(len(name)))+name+behind), api.ErrName, at)
		}
		wrong(t, what+", of no length", seal(ahead+"\x00"), api.ErrName, at)
		wrong(t, what+", too long, and not there", seal(ahead+"\x11"), api.ErrName, at)
		wrong(t, what+", far too long", seal(ahead+number(1<<64-1)), api.ErrName, at)
		wrong(t, what+", not all there", seal(ahead+"\x10bbbbbbbbbbbbbbb"), api.ErrShort, at+16)
		wrong(t, what+", not all there, and no name", seal(ahead+"\x03B#"), api.ErrShort, at+3)
		wrong(t, what+", nothing there", seal(ahead+"\x01"), api.ErrShort, at+1)
		wrong(t, what+", its length in two bytes", seal(ahead+"\x81\x00b"+behind), api.ErrVarint, at)
		wrong(t, what+", its length in two bytes, and 0", seal(ahead+"\x80\x00b"+behind), api.ErrVarint, at)
	}
}

func TestDecodeOrder(t *testing.T) {
	const m, a, b = "TARN\x01m", "\x01a", "\x01b"
	const code = "\x00\x00\x01\x14"
	wrong(t, "an import twice", seal(m+"\x02"+b+"\x00"+b+"\x00\x00"), api.ErrOrder, 10)
	wrong(t, "imports turned round", seal(m+"\x02"+b+"\x00"+a+"\x00\x00"), api.ErrOrder, 10)
	wrong(t, "imports, a longer one first", seal(m+"\x02\x02aa\x00"+a+"\x00\x00"), api.ErrOrder, 11)
	wrong(t, "a global twice", seal(m+"\x00\x02"+b+code+b+code), api.ErrOrder, 14)
	wrong(t, "globals turned round", seal(m+"\x00\x02"+b+code+a+code), api.ErrOrder, 14)
	wrong(t, "a global that is an import", seal(m+"\x01"+b+"\x00\x01"+b+code), api.ErrOrder, 11)
	wrong(t, "no name, ahead of a global that is an import", seal(m+"\x02"+a+"\x00"+b+"\x00\x02\x01B"+code+b+code), api.ErrName, 14)
	wrong(t, "the second import", seal(m+"\x02"+b+"\x00\x01d\x00\x02"+a+code+"\x01d"+code), api.ErrOrder, 20)
	wrong(t, "no name ahead of no order", seal(m+"\x02"+b+"\x00\x01A\x00\x00"), api.ErrName, 10)
	wrong(t, "no order ahead of the arity", seal(m+"\x02"+b+"\x00"+a+"\x15\x00"), api.ErrOrder, 10)
	wrong(t, "no order ahead of the end", seal(m+"\x02"+b+"\x00"+a), api.ErrOrder, 10)
	wrong(t, "the end ahead of no order", seal(m+"\x02"+b+"\x00\x02a"), api.ErrShort, 12)
	for _, s := range []string{m + "\x01" + a + "\x00\x01" + b + code, m + "\x01" + b + "\x00\x01" + a + code, m + "\x00\x01" + "\x01m" + code, m + "\x01\x01m\x00\x00"} {
		if _, e, at := Decode(seal(s)); e != api.OK {
			t.Errorf("P5: %q: %d, %+v", s, e, at)
		}
	}
}

// TestDecodeNumbers: of each number that a file has: its most, what is past
// that, its wrong forms, and that they count ahead of its being past.
func TestDecodeNumbers(t *testing.T) {
	const main = "TARN\x01m\x00\x01\x04main"
	const any = 1<<64 - 1
	for _, c := range []struct {
		what, ahead string
		least, most uint64
	}{
		{"how many imports", "TARN\x01m", 0, any}, {"an import's arity", "TARN\x01m\x01\x01a", 0, 20}, {"how many globals", "TARN\x01m\x00", 0, any},
		{"a global's arity", main, 0, 20}, {"export", main + "\x00", 0, 1}, {"how many instructions", main + "\x00\x01", 0, 65535}, {"an Op", main + "\x00\x01\x01", 0, 20},
		{"Int", main + "\x00\x01\x02\x00", 0, any}, {"Glob", main + "\x00\x01\x02\x01", 0, 65535}, {"Push", main + "\x00\x01\x02\x02", 0, 1000}, {"Slide", main + "\x00\x01\x02\x04", 0, 1000},
		{"Update", main + "\x00\x01\x02\x05", 0, 1000}, {"Pop", main + "\x00\x01\x02\x06", 0, 1000}, {"Alloc", main + "\x00\x01\x02\x07", 1, 1000}, {"Pack", main + "\x00\x01\x02\x0f", 0, 65535},
		{"Split", main + "\x00\x01\x02\x10", 0, 255}, {"Jump", main + "\x00\x01\x02\x12", 0, 65535}, {"how many Alts", main + "\x00\x01\x02\x11", 1, 256},
		{"a Tag", main + "\x00\x01\x02\x11\x02", 0, 255}, {"a To", main + "\x00\x01\x02\x11\x02\x07", 0, 65535}, {"a second Tag", main + "\x00\x01\x02\x11\x02\x08\x00", 0, 255}, {"a second To", main + "\x00\x01\x02\x11\x02\x00\x00\x07", 0, 65535},
	} {
		at := len(c.ahead)
		for _, x := range []uint64{c.least, c.most} {
			s := c.ahead + number(x)
			// The file ends here, but where this is the last number; what is told is not this number's.
			if _, e, place := Decode(seal(s)); e == api.ErrForm || e == api.ErrVarint || e == api.ErrShort && place.At != len(s) {
				t.Errorf("P5: %s is %d: %d, %+v", c.what, x, e, place)
			}
		}
		if c.least > 0 {
			wrong(t, c.what+" too small", seal(c.ahead+number(c.least-1)), api.ErrForm, at)
		}
		if c.most < any {
			for _, x := range []uint64{c.most + 1, 1 << 32, 1<<32 + 1, 1 << 63, any} {
				wrong(t, c.what+" too great", seal(c.ahead+number(x)), api.ErrForm, at)
			}
		}
		nine := strings.Repeat("\xff", 9)
		for _, s := range []string{"\x80\x00", "\x81\x00", "\xff\xff\x00", nine + "\x00", nine + "\x02", nine + "\x7f", nine + "\x80", nine + "\xff\xff\xff"} {
			wrong(t, c.what+" is no varint", seal(c.ahead+s), api.ErrVarint, at)
		}
		for _, s := range []string{"", "\x80", "\xff\xff", nine} {
			wrong(t, c.what+" ends too early", seal(c.ahead+s), api.ErrShort, at+len(s))
		}
	}
}

func TestDecodeAlts(t *testing.T) {
	const ahead = "TARN\x01m\x00\x01\x04main\x00\x01\x01\x11"
	wrong(t, "a Tag twice", seal(ahead+"\x03\x01\x00\x02\x00\x01\x00"), api.ErrOrder, len(ahead)+5)
	wrong(t, "a Tag twice, and then the end", seal(ahead+"\x02\x01\x00\x01"), api.ErrOrder, len(ahead)+3)
	wrong(t, "a Tag of two bytes twice", seal(ahead+"\x02\xff\x01\x00\xff\x01\x00"), api.ErrOrder, len(ahead)+4)
	wrong(t, "a To ahead of the Tag behind it", seal(ahead+"\x02\x01\x80\x80\x04\x01\x00"), api.ErrForm, len(ahead)+2)
	all := number(256)
	for k := range 256 {
		all += number(uint64(255-k)) + "\x00"
	}
	if o, e, at := Decode(seal(ahead + all)); e != api.OK || len(o.Globals[0].Code[0].Alts) != 256 || o.Globals[0].Code[0].Alts[0].Tag != 255 {
		t.Errorf("P5: 256 Alts: %d, %+v", e, at)
	}
}

func TestDecodeMore(t *testing.T) {
	for _, s := range []string{wholeBody(), "TARN\x01m\x00\x00", "TARN\x01m\x00\x01\x04main\x00\x01\x00"} {
		for _, x := range []string{"\x00", "\xff", s} {
			wrong(t, "more", seal(s+x), api.ErrMore, len(s))
		}
	}
}

// TestDecodeFirst: the first of several faults is told, whatever their kinds, and Sound's behind them all.
func TestDecodeFirst(t *testing.T) {
	const main = "TARN\x01m\x00\x01\x04main"
	wrong(t, "the mark, then all else", seal("TARX\x00\x80\x00"), api.ErrForm, 3)
	wrong(t, "arity, then export", seal(main+"\x15\x80\x00"), api.ErrForm, len(main))
	wrong(t, "export, then an Op", seal(main+"\x00\x82\x00\x01\x15"), api.ErrVarint, len(main)+1)
	wrong(t, "an Op, then more", seal(main+"\x00\x01\x01\x15\x00\x00"), api.ErrForm, len(main)+3)
	wrong(t, "more, ahead of an object that is not sound", seal(main+"\x00\x01\x01\x00\x00\x00"), api.ErrMore, len(main)+5)
	wrong(t, "the end, ahead of an object that is not sound", seal("TARN\x01m\x00\x02\x01a\x00\x00\x00"), api.ErrShort, 13)
	wrong(t, "sound's only", seal(main+"\x00\x01\x01\x00\x00"), api.ErrJump, 0)
}

// TestDecodeJustOneFile: each byte of a file turned into each other; what Decode still takes, Encode gives again.
func TestDecodeJustOneFile(t *testing.T) {
	body := wholeBody()
	good := 0
	for k := range len(body) {
		for x := range 256 {
			b := []byte(body)
			b[k] = byte(x)
			if again(t, seal(string(b))) {
				good++
			}
		}
	}
	if good <= len(body) {
		t.Errorf("only %d files are still good: these say too little", good)
	}
}

// TestDecodeJumble: bytes put in, taken out and turned, at several places.
func TestDecodeJumble(t *testing.T) {
	r := rand.New(rand.NewSource(1))
	body := wholeBody()
	for range 50000 {
		b := []byte(body)
		for range 1 + r.Intn(4) {
			k := 4 + r.Intn(len(b)-4)
			switch r.Intn(3) {
			case 0:
				b[k] = byte(r.Intn(256))
			case 1:
				b = append(b[:k], b[k+1:]...)
			case 2:
				b = append(b[:k], append([]byte{byte(r.Intn(256))}, b[k:]...)...)
			}
		}
		again(t, seal(string(b)))
	}
}

// again looks that Decode tells an error within the file, or an object that is sound and whose file it is.
func again(t *testing.T, file string) bool {
	t.Helper()
	o, e, at := Decode(file)
	if e != api.OK {
		if !reflect.DeepEqual(o, api.Object{}) || at.At < 0 || at.At > len(file)-4 {
			t.Errorf("P5: %q: %+v, %d, %+v", file, o, e, at)
		}
		return false
	}
	if s, e := Encode(o); s != file || e != api.OK {
		t.Errorf("P5: %q is not given again: %q, %d", file, s, e)
	}
	if e, at := Sound(o); e != api.OK {
		t.Errorf("P5: %q is not sound: %d, %+v", file, e, at)
	}
	return true
}
