package thumb_test

import (
	"math"
	"slices"
	"strings"
	"testing"

	"bauta/api"
	"bauta/thumb"
)

// span is from where to where a number goes; one that does not belong to an Op goes from 0 to 0.
type span struct{ least, most int }

// form is what the document says of an Op: its bits as it writes them, the spans of its numbers, what it reads, whether it sets D.
type form struct {
	bits         string
	d, n, m, imm span
	reads        string
	writes       bool
}

var (
	absent = span{0, 0}
	reg    = span{0, 7}
)

// Each Op; of Alu reads and writes hang on what it does: see alu.
var forms = map[int]form{
	api.MovI: {"00100 ddd iiiiiiii", reg, absent, absent, span{0, 255}, "", true},
	api.CmpI: {"00101 ddd iiiiiiii", reg, absent, absent, span{0, 255}, "D", false},
	api.AddI: {"00110 ddd iiiiiiii", reg, absent, absent, span{0, 255}, "D", true},
	api.SubI: {"00111 ddd iiiiiiii", reg, absent, absent, span{0, 255}, "D", true},
	api.LslI: {"00000 iiiii mmm ddd", reg, absent, reg, span{0, 31}, "M", true},
	api.LsrI: {"00001 iiiii mmm ddd", reg, absent, reg, span{1, 32}, "M", true},
	api.AsrI: {"00010 iiiii mmm ddd", reg, absent, reg, span{1, 32}, "M", true},
	api.AddR: {"0001100 mmm nnn ddd", reg, reg, reg, absent, "NM", true},
	api.SubR: {"0001101 mmm nnn ddd", reg, reg, reg, absent, "NM", true},
	api.AddS: {"0001110 iii nnn ddd", reg, reg, absent, span{0, 7}, "N", true},
	api.SubS: {"0001111 iii nnn ddd", reg, reg, absent, span{0, 7}, "N", true},
	api.Alu:  {"010000 oooo mmm ddd", reg, absent, reg, span{0, 15}, "", false},
	api.LdrI: {"01101 iiiii nnn ddd", reg, reg, absent, span{0, 31}, "N", true},
	api.StrI: {"01100 iiiii nnn ddd", reg, reg, absent, span{0, 31}, "ND", false},
	api.LdrR: {"0101100 mmm nnn ddd", reg, reg, reg, absent, "NM", true},
	api.StrR: {"0101000 mmm nnn ddd", reg, reg, reg, absent, "NMD", false},
	api.LdrL: {"01001 ddd iiiiiiii", reg, absent, absent, span{0, 255}, "", true},
	api.B:    {"11100 iiiiiiiiiii", absent, absent, absent, span{-1024, 1023}, "", false},
	api.Bc:   {"1101 cccc iiiiiiii", span{0, 13}, absent, absent, span{-128, 127}, "", false},
	api.Nop:  {"1011111100000000", absent, absent, absent, absent, "", false},
	api.Bkpt: {"10111110 iiiiiiii", absent, absent, absent, span{0, 255}, "", false},
}

// What Alu reads and sets, by its Imm.
var alu = [16]struct {
	reads  string
	writes bool
}{
	api.And: {"DM", true}, api.Eor: {"DM", true}, api.LslR: {"DM", true}, api.LsrR: {"DM", true},
	api.AsrR: {"DM", true}, api.Adc: {"DM", true}, api.Sbc: {"DM", true}, api.RorR: {"DM", true},
	api.Tst: {"DM", false}, api.Neg: {"M", true}, api.Cmp: {"DM", false}, api.Cmn: {"DM", false},
	api.Orr: {"DM", true}, api.Mul: {"DM", true}, api.Bic: {"DM", true}, api.Mvn: {"M", true},
}

// number is the number of i that a letter of the document's bits stands for.
func number(i api.Ins, letter byte) int {
	switch letter {
	case 'd', 'c', 'D':
		return i.D
	case 'n', 'N':
		return i.N
	case 'm', 'M':
		return i.M
	}
	return i.Imm
}

// halfword writes i by the document's bits, from the last one on.
func halfword(i api.Ins) uint16 {
	bits := strings.ReplaceAll(forms[i.Op].bits, " ", "")
	given := map[byte]int{}
	h := uint16(0)
	for at := range 16 {
		letter := bits[15-at]
		one := letter == '1'
		if letter > '1' {
			one = number(i, letter)>>given[letter]&1 == 1
			given[letter]++
		}
		if one {
			h |= 1 << at
		}
	}
	return h
}

// registers is what the letters of reads stand for, rising, each once.
func registers(i api.Ins, reads string) []int {
	l := []int{}
	for r := range api.Regs {
		for k := range len(reads) {
			if number(i, reads[k]) == r {
				l = append(l, r)
				break
			}
		}
	}
	return l
}

// all gives each instruction that there is to do.
func all(do func(i api.Ins)) {
	for op := range api.Ops {
		f := forms[op]
		for d := f.d.least; d <= f.d.most; d++ {
			for n := f.n.least; n <= f.n.most; n++ {
				for m := f.m.least; m <= f.m.most; m++ {
					for imm := f.imm.least; imm <= f.imm.most; imm++ {
						do(api.Ins{Op: op, D: d, N: n, M: m, Imm: imm})
					}
				}
			}
		}
	}
}

// none looks whether every call says of i that it is no instruction.
func none(t *testing.T, i api.Ins) {
	t.Helper()
	if thumb.Can(i) {
		t.Errorf("Can(%+v)", i)
	}
	if h, e := thumb.Put(i); h != 0 || e != api.ErrArg {
		t.Errorf("Put(%+v) = %04x, %v", i, h, e)
	}
	if l := thumb.Reads(i); len(l) != 0 {
		t.Errorf("Reads(%+v) = %v", i, l)
	}
	if r, is := thumb.Writes(i); r != 0 || is {
		t.Errorf("Writes(%+v) = %d, %v", i, r, is)
	}
}

// Halfwords as an assembler of the machine writes them: the least and the greatest of each field, and some between.
func TestHalfwords(t *testing.T) {
	for _, x := range []struct {
		i api.Ins
		h uint16
	}{
		{api.Ins{Op: api.MovI, D: 1, Imm: 5}, 0x2105}, {api.Ins{Op: api.MovI}, 0x2000}, {api.Ins{Op: api.MovI, D: 7, Imm: 255}, 0x27ff},
		{api.Ins{Op: api.CmpI}, 0x2800}, {api.Ins{Op: api.CmpI, D: 7, Imm: 255}, 0x2fff}, {api.Ins{Op: api.CmpI, D: 3, Imm: 16}, 0x2b10},
		{api.Ins{Op: api.AddI}, 0x3000}, {api.Ins{Op: api.AddI, D: 7, Imm: 255}, 0x37ff}, {api.Ins{Op: api.AddI, D: 2, Imm: 1}, 0x3201},
		{api.Ins{Op: api.SubI}, 0x3800}, {api.Ins{Op: api.SubI, D: 7, Imm: 255}, 0x3fff}, {api.Ins{Op: api.SubI, D: 4, Imm: 128}, 0x3c80},
		{api.Ins{Op: api.LslI}, 0x0000}, {api.Ins{Op: api.LslI, D: 7, M: 7, Imm: 31}, 0x07ff}, {api.Ins{Op: api.LslI, D: 1, M: 2, Imm: 3}, 0x00d1},
		{api.Ins{Op: api.LsrI, Imm: 1}, 0x0840}, {api.Ins{Op: api.LsrI, D: 7, M: 7, Imm: 32}, 0x083f}, {api.Ins{Op: api.LsrI, D: 7, M: 7, Imm: 31}, 0x0fff}, {api.Ins{Op: api.LsrI, M: 1, Imm: 32}, 0x0808},
		{api.Ins{Op: api.AsrI, Imm: 1}, 0x1040}, {api.Ins{Op: api.AsrI, D: 7, M: 7, Imm: 32}, 0x103f}, {api.Ins{Op: api.AsrI, D: 7, M: 7, Imm: 31}, 0x17ff}, {api.Ins{Op: api.AsrI, D: 5, M: 6, Imm: 4}, 0x1135},
		{api.Ins{Op: api.AddR}, 0x1800}, {api.Ins{Op: api.AddR, D: 7, N: 7, M: 7}, 0x19ff}, {api.Ins{Op: api.AddR, D: 1, N: 2, M: 3}, 0x18d1},
		{api.Ins{Op: api.SubR}, 0x1a00}, {api.Ins{Op: api.SubR, D: 7, N: 7, M: 7}, 0x1bff}, {api.Ins{Op: api.SubR, D: 1, N: 2, M: 3}, 0x1ad1},
		{api.Ins{Op: api.AddS}, 0x1c00}, {api.Ins{Op: api.AddS, D: 7, N: 7, Imm: 7}, 0x1dff}, {api.Ins{Op: api.AddS, D: 1, N: 2, Imm: 3}, 0x1cd1},
		{api.Ins{Op: api.SubS}, 0x1e00}, {api.Ins{Op: api.SubS, D: 7, N: 7, Imm: 7}, 0x1fff}, {api.Ins{Op: api.SubS, D: 1, N: 2, Imm: 3}, 0x1ed1},
		{api.Ins{Op: api.Alu, Imm: api.And}, 0x4000}, {api.Ins{Op: api.Alu, D: 7, M: 7, Imm: api.Mvn}, 0x43ff}, {api.Ins{Op: api.Alu, D: 1, M: 2, Imm: api.Eor}, 0x4051},
		{api.Ins{Op: api.Alu, D: 1, M: 2, Imm: api.LslR}, 0x4091}, {api.Ins{Op: api.Alu, D: 1, M: 2, Imm: api.LsrR}, 0x40d1}, {api.Ins{Op: api.Alu, D: 1, M: 2, Imm: api.AsrR}, 0x4111},
		{api.Ins{Op: api.Alu, D: 1, M: 2, Imm: api.Adc}, 0x4151}, {api.Ins{Op: api.Alu, D: 1, M: 2, Imm: api.Sbc}, 0x4191}, {api.Ins{Op: api.Alu, D: 1, M: 2, Imm: api.RorR}, 0x41d1},
		{api.Ins{Op: api.Alu, D: 1, M: 2, Imm: api.Tst}, 0x4211}, {api.Ins{Op: api.Alu, D: 1, M: 2, Imm: api.Neg}, 0x4251}, {api.Ins{Op: api.Alu, D: 1, M: 2, Imm: api.Cmp}, 0x4291},
		{api.Ins{Op: api.Alu, D: 1, M: 2, Imm: api.Cmn}, 0x42d1}, {api.Ins{Op: api.Alu, D: 1, M: 2, Imm: api.Orr}, 0x4311}, {api.Ins{Op: api.Alu, D: 1, M: 2, Imm: api.Mul}, 0x4351},
		{api.Ins{Op: api.Alu, D: 1, M: 2, Imm: api.Bic}, 0x4391}, {api.Ins{Op: api.Alu, D: 1, M: 2, Imm: api.Mvn}, 0x43d1},
		{api.Ins{Op: api.LdrI}, 0x6800}, {api.Ins{Op: api.LdrI, D: 7, N: 7, Imm: 31}, 0x6fff}, {api.Ins{Op: api.LdrI, D: 1, N: 2, Imm: 3}, 0x68d1},
		{api.Ins{Op: api.StrI}, 0x6000}, {api.Ins{Op: api.StrI, D: 7, N: 7, Imm: 31}, 0x67ff}, {api.Ins{Op: api.StrI, D: 1, N: 2, Imm: 3}, 0x60d1},
		{api.Ins{Op: api.LdrR}, 0x5800}, {api.Ins{Op: api.LdrR, D: 7, N: 7, M: 7}, 0x59ff}, {api.Ins{Op: api.LdrR, D: 1, N: 2, M: 3}, 0x58d1},
		{api.Ins{Op: api.StrR}, 0x5000}, {api.Ins{Op: api.StrR, D: 7, N: 7, M: 7}, 0x51ff}, {api.Ins{Op: api.StrR, D: 1, N: 2, M: 3}, 0x50d1},
		{api.Ins{Op: api.LdrL}, 0x4800}, {api.Ins{Op: api.LdrL, D: 7, Imm: 255}, 0x4fff}, {api.Ins{Op: api.LdrL, D: 2, Imm: 9}, 0x4a09},
		{api.Ins{Op: api.B}, 0xe000}, {api.Ins{Op: api.B, Imm: 1023}, 0xe3ff}, {api.Ins{Op: api.B, Imm: -1024}, 0xe400}, {api.Ins{Op: api.B, Imm: -1}, 0xe7ff}, {api.Ins{Op: api.B, Imm: -2}, 0xe7fe},
		{api.Ins{Op: api.Bc}, 0xd000}, {api.Ins{Op: api.Bc, D: 13, Imm: 127}, 0xdd7f}, {api.Ins{Op: api.Bc, D: 13, Imm: -128}, 0xdd80}, {api.Ins{Op: api.Bc, D: 1, Imm: -1}, 0xd1ff}, {api.Ins{Op: api.Bc, D: 8, Imm: 3}, 0xd803},
		{api.Ins{Op: api.Nop}, 0xbf00},
		{api.Ins{Op: api.Bkpt}, 0xbe00}, {api.Ins{Op: api.Bkpt, Imm: 255}, 0xbeff}, {api.Ins{Op: api.Bkpt, Imm: 171}, 0xbeab},
	} {
		if !thumb.Can(x.i) {
			t.Errorf("Can(%+v) = false", x.i)
		}
		if h, e := thumb.Put(x.i); h != x.h || e != api.OK {
			t.Errorf("Put(%+v) = %04x, %v", x.i, h, e)
		}
		if i, e := thumb.Take(x.h); i != x.i || e != api.OK {
			t.Errorf("Take(%04x) = %+v, %v", x.h, i, e)
		}
	}
}

// Each instruction has the document's bits, and no other one has the same; halfwords that are left are none's.
func TestEachInstructionAndHalfword(t *testing.T) {
	taken := map[uint16]api.Ins{}
	all(func(i api.Ins) {
		want := halfword(i)
		if other, is := taken[want]; is {
			t.Errorf("%+v and %+v are both %04x", i, other, want)
		}
		taken[want] = i
		if !thumb.Can(i) {
			t.Errorf("Can(%+v) = false", i)
		}
		h, e := thumb.Put(i)
		if h != want || e != api.OK {
			t.Errorf("Put(%+v) = %04x, %v", i, h, e)
		}
		if back, e := thumb.Take(h); back != i || e != api.OK {
			t.Errorf("Take(Put(%+v)) = %+v, %v", i, back, e)
		}
	})
	if len(taken) != 30465 {
		t.Errorf("%d instructions", len(taken))
	}
	for n := range 1 << 16 {
		h := uint16(n)
		i, e := thumb.Take(h)
		want, is := taken[h]
		if !is {
			if i != (api.Ins{}) || e != api.ErrUndef {
				t.Errorf("Take(%04x) = %+v, %v", h, i, e)
			}
			continue
		}
		if i != want || e != api.OK {
			t.Errorf("Take(%04x) = %+v, %v", h, i, e)
		}
		if back, e := thumb.Put(i); back != h || e != api.OK {
			t.Errorf("Put(Take(%04x)) = %04x, %v", h, back, e)
		}
	}
}

// What is beside the halfwords of instructions, by hand.
func TestTakeOfNone(t *testing.T) {
	for _, h := range []uint16{
		0x4400, 0x4700, 0x47ff, // behind Alu
		0x5200, 0x5400, 0x5600, 0x57ff, 0x5a00, 0x5c00, 0x5e00, 0x5fff, // beside StrR, LdrR
		0x7000, 0x8000, 0x9000, 0xa000, 0xb000, 0xbdff, // between StrI and Bkpt
		0xbf01, 0xbf10, 0xbfff, // behind Nop
		0xc000, 0xcfff, 0xde00, 0xdeff, 0xdf00, 0xdfff, // around Bc
		0xe800, 0xf000, 0xffff, // behind B
	} {
		if i, e := thumb.Take(h); i != (api.Ins{}) || e != api.ErrUndef {
			t.Errorf("Take(%04x) = %+v, %v", h, i, e)
		}
	}
}

func TestNoOp(t *testing.T) {
	for _, op := range []int{-1, -2, -api.Ops, api.Ops, api.Ops + 1, 255, 256, 1 << 16, math.MaxInt32, math.MinInt32, math.MaxInt, math.MinInt} {
		for _, n := range []int{0, 1, 7} {
			none(t, api.Ins{Op: op, D: n, N: n, M: n, Imm: n})
			none(t, api.Ins{Op: op, D: n, Imm: n})
		}
		none(t, api.Ins{Op: op})
	}
}

// Each number is put just out of its span, and far out, some where the last bits alone would be fine.
func TestNumbersOutOfSpan(t *testing.T) {
	for op, f := range forms {
		for _, x := range []struct {
			s   span
			set func(i *api.Ins, n int)
		}{
			{f.d, func(i *api.Ins, n int) { i.D = n }},
			{f.n, func(i *api.Ins, n int) { i.N = n }},
			{f.m, func(i *api.Ins, n int) { i.M = n }},
			{f.imm, func(i *api.Ins, n int) { i.Imm = n }},
		} {
			beyond := []int{x.s.least - 1, x.s.most + 1, x.s.least - 32, x.s.most + 32, x.s.least - 1<<16, x.s.most + 1<<16,
				math.MinInt32, math.MaxInt32, math.MinInt, math.MinInt + 1, math.MaxInt}
			for _, i := range []api.Ins{
				{Op: op, D: f.d.least, N: f.n.least, M: f.m.least, Imm: f.imm.least},
				{Op: op, D: f.d.most, N: f.n.most, M: f.m.most, Imm: f.imm.most},
			} {
				for _, n := range beyond {
					wrong := i
					x.set(&wrong, n)
					none(t, wrong)
				}
				for _, n := range []int{x.s.least, x.s.most} {
					fine := i
					if x.set(&fine, n); !thumb.Can(fine) {
						t.Errorf("Can(%+v) = false", fine)
					}
				}
			}
		}
	}
}

// Wrong numbers by hand: what does not belong to the Op, conditions that there are none of, numbers a step too far.
func TestWrongNumbers(t *testing.T) {
	for _, i := range []api.Ins{
		{Op: api.MovI, N: 1}, {Op: api.MovI, M: 1}, {Op: api.MovI, D: 8}, {Op: api.MovI, D: -1}, {Op: api.MovI, Imm: 256}, {Op: api.MovI, Imm: -1},
		{Op: api.LslI, N: 1}, {Op: api.LslI, Imm: 32}, {Op: api.LslI, Imm: -1},
		{Op: api.LsrI}, {Op: api.LsrI, Imm: 33}, {Op: api.AsrI}, {Op: api.AsrI, Imm: 33},
		{Op: api.AddR, Imm: 1}, {Op: api.AddR, M: 8}, {Op: api.SubR, N: -1}, {Op: api.AddS, M: 1}, {Op: api.AddS, Imm: 8}, {Op: api.SubS, Imm: -1},
		{Op: api.Alu, N: 1}, {Op: api.Alu, Imm: 16}, {Op: api.Alu, Imm: -1},
		{Op: api.LdrI, M: 1}, {Op: api.LdrI, Imm: 32}, {Op: api.StrI, M: 1}, {Op: api.LdrR, Imm: 1}, {Op: api.StrR, Imm: -1},
		{Op: api.LdrL, N: 1}, {Op: api.LdrL, Imm: 256},
		{Op: api.B, D: 1}, {Op: api.B, N: 1}, {Op: api.B, M: 1}, {Op: api.B, Imm: 1024}, {Op: api.B, Imm: -1025},
		{Op: api.Bc, D: 14}, {Op: api.Bc, D: 15}, {Op: api.Bc, D: -1}, {Op: api.Bc, N: 1}, {Op: api.Bc, Imm: 128}, {Op: api.Bc, Imm: -129},
		{Op: api.Nop, D: 1}, {Op: api.Nop, Imm: 1}, {Op: api.Bkpt, D: 1}, {Op: api.Bkpt, Imm: 256}, {Op: api.Bkpt, Imm: -1},
	} {
		none(t, i)
	}
}

func TestReadsAndWrites(t *testing.T) {
	all(func(i api.Ins) {
		reads, writes := forms[i.Op].reads, forms[i.Op].writes
		if i.Op == api.Alu {
			reads, writes = alu[i.Imm].reads, alu[i.Imm].writes
		}
		if l, want := thumb.Reads(i), registers(i, reads); !slices.Equal(l, want) {
			t.Errorf("Reads(%+v) = %v, not %v", i, l, want)
		}
		want := 0
		if writes {
			want = i.D
		}
		if r, is := thumb.Writes(i); r != want || is != writes {
			t.Errorf("Writes(%+v) = %d, %v", i, r, is)
		}
	})
}

// Registers rise whatever their places are, and one that is named twice is told once.
func TestReadsRising(t *testing.T) {
	for _, x := range []struct {
		i    api.Ins
		want []int
	}{
		{api.Ins{Op: api.StrR, D: 1, N: 5, M: 3}, []int{1, 3, 5}}, {api.Ins{Op: api.StrR, D: 5, N: 3, M: 1}, []int{1, 3, 5}},
		{api.Ins{Op: api.StrR, D: 0, N: 0, M: 0}, []int{0}}, {api.Ins{Op: api.StrR, D: 7, N: 2, M: 7}, []int{2, 7}},
		{api.Ins{Op: api.StrR, D: 2, N: 2, M: 1}, []int{1, 2}}, {api.Ins{Op: api.StrI, D: 1, N: 6}, []int{1, 6}},
		{api.Ins{Op: api.StrI, D: 6, N: 1}, []int{1, 6}}, {api.Ins{Op: api.StrI, D: 4, N: 4, Imm: 31}, []int{4}},
		{api.Ins{Op: api.AddR, D: 1, N: 7, M: 2}, []int{2, 7}}, {api.Ins{Op: api.SubR, D: 1, N: 2, M: 2}, []int{2}},
		{api.Ins{Op: api.LdrR, D: 1, N: 7, M: 0}, []int{0, 7}}, {api.Ins{Op: api.LdrL, D: 3, Imm: 1}, nil},
		{api.Ins{Op: api.Alu, D: 6, M: 5, Imm: api.Mul}, []int{5, 6}}, {api.Ins{Op: api.Alu, D: 6, M: 6, Imm: api.Eor}, []int{6}},
		{api.Ins{Op: api.Alu, D: 6, M: 5, Imm: api.Neg}, []int{5}}, {api.Ins{Op: api.Alu, D: 6, M: 5, Imm: api.Mvn}, []int{5}},
		{api.Ins{Op: api.Alu, D: 6, M: 5, Imm: api.Cmp}, []int{5, 6}}, {api.Ins{Op: api.Bc, D: 3}, nil}, {api.Ins{Op: api.MovI, D: 3}, nil},
	} {
		if l := thumb.Reads(x.i); !slices.Equal(l, x.want) {
			t.Errorf("Reads(%+v) = %v", x.i, l)
		}
	}
}

// What is done to one answer, its spare room included, is not to be seen in another.
func TestReadsIsNewMemory(t *testing.T) {
	for _, i := range []api.Ins{{Op: api.StrR, D: 1, N: 5, M: 3}, {Op: api.StrR}, {Op: api.AddI, D: 4}, {Op: api.Alu, D: 2, M: 2}} {
		first, want := thumb.Reads(i), thumb.Reads(i)
		second := thumb.Reads(i)
		for k := range cap(first) {
			first[:cap(first)][k] = 99
		}
		if !slices.Equal(second, want) || !slices.Equal(thumb.Reads(i), want) {
			t.Errorf("Reads(%+v) is shared", i)
		}
	}
}
