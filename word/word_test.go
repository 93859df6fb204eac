package word_test

import (
	"fmt"
	"math"
	"strings"
	"testing"

	"bauta/api"
	"bauta/word"
)

const top = uint32(math.MaxUint32)

// samples are the words at which something turns, and some in between.
func samples() []uint32 {
	l := []uint32{0, 1, 2, 3, 5, 7, 9, 10, 15, 16, 31, 32, 33, 0xff, 0x100, 0xbeef, 0x12345678, 0x55555555, 0xaaaaaaaa,
		1<<31 - 2, 1<<31 - 1, 1 << 31, 1<<31 + 1, 0xdeadbeef, 0xfffffffe, top}
	// A fixed walk, so that each run looks at the same words.
	for w, i := uint32(1), 0; i < 40; i++ {
		w = w*1664525 + 1013904223
		l = append(l, w)
	}
	return l
}

// amounts are all amounts of shifts within a word, those around its ends, and great ones.
func amounts() []uint32 {
	l := []uint32{63, 64, 65, 96, 127, 128, 200, 255, 256, 257, 1 << 16, 1 << 31, 1<<31 + 1, top - 31, top}
	for by := range uint32(36) {
		l = append(l, by)
	}
	return l
}

func TestAddTable(t *testing.T) {
	for _, x := range []struct {
		a, b            uint32
		carry           bool
		sum             uint32
		out, outOfRange bool
	}{
		{0, 0, false, 0, false, false},
		{0, 0, true, 1, false, false},
		{2, 3, false, 5, false, false},
		{top, 1, false, 0, true, false},
		{top, 0, true, 0, true, false},
		{top, 0, false, top, false, false},
		{top, top, false, top - 1, true, false},
		{top, top, true, top, true, false},
		{1<<31 - 1, 1, false, 1 << 31, false, true},
		{1<<31 - 1, 0, true, 1 << 31, false, true},
		{1<<31 - 1, 1<<31 - 1, true, top, false, true},
		{1 << 31, 1 << 31, false, 0, true, true},
		{1 << 31, top, false, 1<<31 - 1, true, true},
		{1 << 31, top, true, 1 << 31, true, false},
		{1 << 31, 1<<31 - 1, true, 0, true, false},
	} {
		sum, out, outOfRange := word.Add(x.a, x.b, x.carry)
		if sum != x.sum || out != x.out || outOfRange != x.outOfRange {
			t.Errorf("Add(%#x, %#x, %v) = %#x, %v, %v", x.a, x.b, x.carry, sum, out, outOfRange)
		}
	}
}

// The sums are reckoned in wider numbers, without a sign and with one.
func TestAddAgainstWideSums(t *testing.T) {
	for _, a := range samples() {
		for _, b := range samples() {
			for c, carry := range []bool{false, true} {
				wide := uint64(a) + uint64(b) + uint64(c)
				signed := int64(int32(a)) + int64(int32(b)) + int64(c)
				sum, out, outOfRange := word.Add(a, b, carry)
				if sum != uint32(wide) || out != (wide > math.MaxUint32) {
					t.Errorf("Add(%#x, %#x, %v) = %#x, %v", a, b, carry, sum, out)
				}
				if outOfRange != (signed < math.MinInt32 || signed > math.MaxInt32) {
					t.Errorf("Add(%#x, %#x, %v): out of range %v", a, b, carry, outOfRange)
				}
			}
		}
	}
}

func TestShiftTable(t *testing.T) {
	for _, x := range []struct {
		kind  int
		a, by uint32
		want  uint32
		out   bool
	}{
		{api.Lsl, 3, 1, 6, false}, {api.Lsl, 3, 31, 1 << 31, true},
		{api.Lsl, 1, 32, 0, true}, {api.Lsl, top - 1, 32, 0, false},
		{api.Lsl, top, 33, 0, false}, {api.Lsl, top, 64, 0, false}, {api.Lsl, top, top, 0, false},
		{api.Lsr, 5, 1, 2, true}, {api.Lsr, 4, 1, 2, false}, {api.Lsr, 1 << 31, 31, 1, false},
		{api.Lsr, 1 << 31, 32, 0, true}, {api.Lsr, 1<<31 - 1, 32, 0, false},
		{api.Lsr, top, 33, 0, false}, {api.Lsr, top, 64, 0, false}, {api.Lsr, top, top, 0, false},
		{api.Asr, 1 << 31, 4, 0xf8000000, false}, {api.Asr, 9, 1, 4, true}, {api.Asr, 1 << 31, 31, top, false},
		{api.Asr, 1 << 31, 32, top, true}, {api.Asr, 1<<31 - 1, 32, 0, false},
		{api.Asr, 1 << 31, 33, top, true}, {api.Asr, 1 << 31, top, top, true}, {api.Asr, 1<<31 - 1, 200, 0, false},
		{api.Ror, 1, 1, 1 << 31, true}, {api.Ror, 2, 1, 1, false}, {api.Ror, 7, 32, 7, false},
		{api.Ror, 1 << 31, 32, 1 << 31, true}, {api.Ror, 1, 33, 1 << 31, true}, {api.Ror, 0x12345678, 8, 0x78123456, false},
	} {
		// What goes in as a carry counts by 0 alone.
		for _, carry := range []bool{false, true} {
			got, out := word.Shift(x.kind, x.a, x.by, carry)
			if got != x.want || out != x.out {
				t.Errorf("Shift(%d, %#x, %d, %v) = %#x, %v", x.kind, x.a, x.by, carry, got, out)
			}
		}
	}
}

func TestShiftByNought(t *testing.T) {
	for kind := api.Lsl; kind <= api.Ror; kind++ {
		for _, a := range samples() {
			for _, carry := range []bool{false, true} {
				if got, out := word.Shift(kind, a, 0, carry); got != a || out != carry {
					t.Errorf("Shift(%d, %#x, 0, %v) = %#x, %v", kind, a, carry, got, out)
				}
			}
		}
	}
}

func TestShiftOfNoKind(t *testing.T) {
	for _, kind := range []int{-1, 4, 5, 255, 256, math.MinInt, math.MaxInt, 1 << 32} {
		for _, by := range amounts() {
			for _, carry := range []bool{false, true} {
				if got, out := word.Shift(kind, top, by, carry); got != 0 || out {
					t.Errorf("Shift(%d, .., %d, %v) = %#x, %v", kind, by, carry, got, out)
				}
			}
		}
	}
}

// oneBit moves a by one bit, and tells which one went out.
func oneBit(kind int, a uint32) (uint32, bool) {
	switch kind {
	case api.Lsl:
		return a * 2, a >= 1<<31
	case api.Lsr:
		return a / 2, a%2 == 1
	case api.Asr:
		return a/2 + a&(1<<31), a%2 == 1
	}
	return a/2 + a%2<<31, a%2 == 1
}

// A shift is as many shifts by one bit; what goes on beyond 64 bits comes round every 32 of them.
func TestShiftBitByBit(t *testing.T) {
	for kind := api.Lsl; kind <= api.Ror; kind++ {
		for _, a := range samples() {
			for _, by := range amounts() {
				times := by
				if by > 64 {
					times = 64 + by%32
				}
				want, out := a, true
				for range times {
					want, out = oneBit(kind, want)
				}
				if got, last := word.Shift(kind, a, by, true); got != want || last != out {
					t.Errorf("Shift(%d, %#x, %d, true) = %#x, %v", kind, a, by, got, last)
				}
			}
		}
	}
}

func TestRot(t *testing.T) {
	for _, x := range []struct{ a, by, want uint32 }{
		{1 << 31, 1, 1}, {1 << 31, 33, 1}, {0x12345678, 8, 0x34567812}, {0x12345678, 0, 0x12345678},
		{0x12345678, 32, 0x12345678}, {3, 31, 1<<31 + 1}, {3, top, 1<<31 + 1}, {5, 1 << 31, 5},
	} {
		if got := word.Rot(x.a, x.by); got != x.want {
			t.Errorf("Rot(%#x, %d) = %#x", x.a, x.by, got)
		}
	}
	for _, a := range samples() {
		for _, by := range amounts() {
			want := a
			for range by % 32 {
				want = want*2 + want>>31
			}
			if got := word.Rot(a, by); got != want {
				t.Errorf("Rot(%#x, %d) = %#x", a, by, got)
			}
		}
	}
}

func TestSel(t *testing.T) {
	for _, x := range []struct{ m, a, b, want uint32 }{
		{0xff, 1, 0x102, 0x101}, {0, 1, 2, 2}, {top, 1, 2, 1}, {0xffff0000, 0x12345678, 0x9abcdef0, 0x1234def0},
	} {
		if got := word.Sel(x.m, x.a, x.b); got != x.want {
			t.Errorf("Sel(%#x, %#x, %#x) = %#x", x.m, x.a, x.b, got)
		}
	}
	l := samples()
	for i, m := range l {
		a, b := l[(i+7)%len(l)], l[(i+19)%len(l)]
		got := word.Sel(m, a, b)
		for bit := range 32 {
			from := b
			if m>>bit&1 == 1 {
				from = a
			}
			if got>>bit&1 != from>>bit&1 {
				t.Errorf("Sel(%#x, %#x, %#x) = %#x: bit %d", m, a, b, got, bit)
			}
		}
	}
}

func TestParity(t *testing.T) {
	for a, want := range map[uint32]bool{0: false, 1: true, 3: false, 7: true, 1 << 31: true, 1<<31 + 1: false, top: false, top - 1: true} {
		if word.Parity(a) != want {
			t.Errorf("Parity(%#x) = %v", a, !want)
		}
	}
	for _, a := range samples() {
		odd := false
		for bit := range 32 {
			odd = odd != (a>>bit&1 == 1)
		}
		if word.Parity(a) != odd {
			t.Errorf("Parity(%#x) = %v", a, !odd)
		}
	}
}

func TestNumberReads(t *testing.T) {
	noughts := strings.Repeat("0", 300)
	for s, want := range map[string]uint32{
		"0": 0, "00": 0, "7": 7, "007": 7, "42": 42, "1234567890": 1234567890,
		"4294967295": top, "0004294967295": top, noughts + "12": 12, noughts: 0,
		"0x0": 0, "0xfF": 255, "0xaBcDeF": 0xabcdef, "0x123": 0x123, "0x456789": 0x456789,
		"0xffffffff": top, "0xFFFFFFFF": top, "0x" + noughts + "FFFFFFFF": top, "0x0000beef": 0xbeef,
	} {
		if n, e := word.Number(s); n != want || e != api.OK {
			t.Errorf("Number(%.40q) = %d, %v", s, n, e)
		}
	}
}

func TestNumberTooGreat(t *testing.T) {
	for _, s := range []string{
		"4294967296", "4294967297", "4294967300", "5000000000", "10000000000", "0004294967296",
		"18446744073709551615", "18446744073709551616", "18446744073709551617", "18446744078004518912",
		"0x100000000", "0x0100000000", "0xfffffffff", "0x10000000000000000", "0x10000000000000001",
		strings.Repeat("9", 400), "1" + strings.Repeat("0", 400), "0x1" + strings.Repeat("0", 400),
	} {
		if n, e := word.Number(s); n != 0 || e != api.ErrLong {
			t.Errorf("Number(%.40q) = %d, %v", s, n, e)
		}
	}
}

func TestNumberOfNoForm(t *testing.T) {
	for _, s := range []string{
		"", "0x", "x", "0X1", "1x", "00x1", "x1", "1a", "a", "ff", "0xg", "0x1g", "0xG", "0x@", "0x`", "0x:", "0x/",
		"0x0x1", " 1", "1 ", "1\n", "0x 1", "-1", "+1", "1_000", "0b1", "0o7", "1.0", "1e3", "/", ":", "\x00", "0\xff",
		"\u0661", "\uff11", "0x\uff11",
		"99999999999x", "4294967296x", "99999999999f", "0x100000000g", "0xfffffffffffffffffffz", strings.Repeat("9", 400) + "-",
	} {
		if n, e := word.Number(s); n != 0 || e != api.ErrForm {
			t.Errorf("Number(%.40q) = %d, %v", s, n, e)
		}
	}
}

// What is a digit is held against a list of them, byte by byte.
func TestNumberByteByByte(t *testing.T) {
	const decimal, hexadecimal = "0123456789", "0123456789abcdefABCDEF"
	for c := range 256 {
		one := string([]byte{byte(c)})
		for _, x := range []struct{ prefix, digits string }{{"", decimal}, {"0x", hexadecimal}} {
			want, err := uint32(0), api.ErrForm
			if at := strings.IndexByte(x.digits, byte(c)); at >= 0 {
				want, err = uint32(at), api.OK
				if at >= 16 {
					want -= 6
				}
			}
			if n, e := word.Number(x.prefix + one); n != want || e != err {
				t.Errorf("Number(%q) = %d, %v", x.prefix+one, n, e)
			}
		}
	}
}

func TestHex(t *testing.T) {
	for a, want := range map[uint32]string{0: "0x00000000", 0xbeef: "0x0000beef", top: "0xffffffff", 0xabcdef01: "0xabcdef01", 0x23456789: "0x23456789"} {
		if got := word.Hex(a); got != want {
			t.Errorf("Hex(%#x) = %q", a, got)
		}
	}
	for _, a := range samples() {
		if got := word.Hex(a); got != fmt.Sprintf("0x%08x", a) {
			t.Errorf("Hex(%#x) = %q", a, got)
		}
	}
}

func TestLess(t *testing.T) {
	for _, a := range samples() {
		for _, b := range samples() {
			signed := int64(int32(a)) - int64(int32(b))
			got, notAbove, outOfRange := word.Add(a, ^b, true)
			if got != a-b || notAbove != (b <= a) || outOfRange != (signed != int64(int32(signed))) {
				t.Errorf("%#x less %#x = %#x, %v, %v", a, b, got, notAbove, outOfRange)
			}
		}
	}
}

func TestThereAndBack(t *testing.T) {
	l := samples()
	for bit := range 32 {
		l = append(l, 1<<bit, 1<<bit-1)
	}
	for _, a := range l {
		if n, e := word.Number(word.Hex(a)); n != a || e != api.OK {
			t.Errorf("Number(%q) = %#x, %v", word.Hex(a), n, e)
		}
	}
}
