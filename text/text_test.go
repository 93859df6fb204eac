package text_test

import (
	"math"
	"math/rand"
	"slices"
	"strconv"
	"strings"
	"testing"

	"bauta/api"
	"bauta/text"
	"bauta/thumb"
)

// maxText is how many bytes a program's text has at most.
const maxText = 1 << 20

// sample is an instruction and its text.
type sample struct {
	i api.Ins
	s string
}

// Texts by hand: of each row of the document's table, the least and the greatest of each number, and each word of Alu and of Bc.
var samples = []sample{
	{api.Ins{Op: api.MovI}, "movs r0, #0"}, {api.Ins{Op: api.MovI, D: 1, Imm: 5}, "movs r1, #5"}, {api.Ins{Op: api.MovI, D: 7, Imm: 255}, "movs r7, #255"},
	{api.Ins{Op: api.CmpI}, "cmp r0, #0"}, {api.Ins{Op: api.CmpI, D: 7, Imm: 255}, "cmp r7, #255"},
	{api.Ins{Op: api.AddI}, "adds r0, #0"}, {api.Ins{Op: api.AddI, D: 7, Imm: 255}, "adds r7, #255"},
	{api.Ins{Op: api.SubI}, "subs r0, #0"}, {api.Ins{Op: api.SubI, D: 7, Imm: 255}, "subs r7, #255"},
	{api.Ins{Op: api.LslI}, "lsls r0, r0, #0"}, {api.Ins{Op: api.LslI, D: 2, M: 3, Imm: 4}, "lsls r2, r3, #4"}, {api.Ins{Op: api.LslI, D: 7, M: 7, Imm: 31}, "lsls r7, r7, #31"},
	{api.Ins{Op: api.LsrI, Imm: 1}, "lsrs r0, r0, #1"}, {api.Ins{Op: api.LsrI, D: 2, M: 3, Imm: 4}, "lsrs r2, r3, #4"}, {api.Ins{Op: api.LsrI, D: 7, M: 7, Imm: 32}, "lsrs r7, r7, #32"},
	{api.Ins{Op: api.AsrI, Imm: 1}, "asrs r0, r0, #1"}, {api.Ins{Op: api.AsrI, D: 2, M: 3, Imm: 4}, "asrs r2, r3, #4"}, {api.Ins{Op: api.AsrI, D: 7, M: 7, Imm: 32}, "asrs r7, r7, #32"},
	{api.Ins{Op: api.AddR}, "adds r0, r0, r0"}, {api.Ins{Op: api.AddR, D: 1, N: 2, M: 3}, "adds r1, r2, r3"}, {api.Ins{Op: api.AddR, D: 7, N: 7, M: 7}, "adds r7, r7, r7"},
	{api.Ins{Op: api.SubR}, "subs r0, r0, r0"}, {api.Ins{Op: api.SubR, D: 1, N: 2, M: 3}, "subs r1, r2, r3"}, {api.Ins{Op: api.SubR, D: 7, N: 7, M: 7}, "subs r7, r7, r7"},
	{api.Ins{Op: api.AddS}, "adds r0, r0, #0"}, {api.Ins{Op: api.AddS, D: 1, N: 2, Imm: 3}, "adds r1, r2, #3"}, {api.Ins{Op: api.AddS, D: 7, N: 7, Imm: 7}, "adds r7, r7, #7"},
	{api.Ins{Op: api.SubS}, "subs r0, r0, #0"}, {api.Ins{Op: api.SubS, D: 1, N: 2, Imm: 3}, "subs r1, r2, #3"}, {api.Ins{Op: api.SubS, D: 7, N: 7, Imm: 7}, "subs r7, r7, #7"},
	{api.Ins{Op: api.Alu}, "ands r0, r0"}, {api.Ins{Op: api.Alu, D: 1, M: 2, Imm: api.And}, "ands r1, r2"}, {api.Ins{Op: api.Alu, D: 1, M: 2, Imm: api.Eor}, "eors r1, r2"},
	{api.Ins{Op: api.Alu, D: 1, M: 2, Imm: api.LslR}, "lsls r1, r2"}, {api.Ins{Op: api.Alu, D: 1, M: 2, Imm: api.LsrR}, "lsrs r1, r2"}, {api.Ins{Op: api.Alu, D: 1, M: 2, Imm: api.AsrR}, "asrs r1, r2"},
	{api.Ins{Op: api.Alu, D: 1, M: 2, Imm: api.Adc}, "adcs r1, r2"}, {api.Ins{Op: api.Alu, D: 1, M: 2, Imm: api.Sbc}, "sbcs r1, r2"}, {api.Ins{Op: api.Alu, D: 1, M: 2, Imm: api.RorR}, "rors r1, r2"},
	{api.Ins{Op: api.Alu, D: 1, M: 2, Imm: api.Tst}, "tst r1, r2"}, {api.Ins{Op: api.Alu, D: 1, M: 2, Imm: api.Neg}, "rsbs r1, r2"}, {api.Ins{Op: api.Alu, D: 1, M: 2, Imm: api.Cmp}, "cmp r1, r2"},
	{api.Ins{Op: api.Alu, D: 1, M: 2, Imm: api.Cmn}, "cmn r1, r2"}, {api.Ins{Op: api.Alu, D: 1, M: 2, Imm: api.Orr}, "orrs r1, r2"}, {api.Ins{Op: api.Alu, D: 1, M: 2, Imm: api.Mul}, "muls r1, r2"},
	{api.Ins{Op: api.Alu, D: 1, M: 2, Imm: api.Bic}, "bics r1, r2"}, {api.Ins{Op: api.Alu, D: 1, M: 2, Imm: api.Mvn}, "mvns r1, r2"}, {api.Ins{Op: api.Alu, D: 7, M: 7, Imm: api.Mvn}, "mvns r7, r7"},
	{api.Ins{Op: api.LdrI}, "ldr r0, [r0, #0]"}, {api.Ins{Op: api.LdrI, D: 1, N: 2, Imm: 3}, "ldr r1, [r2, #12]"}, {api.Ins{Op: api.LdrI, D: 7, N: 7, Imm: 31}, "ldr r7, [r7, #124]"},
	{api.Ins{Op: api.StrI}, "str r0, [r0, #0]"}, {api.Ins{Op: api.StrI, D: 1, N: 2, Imm: 3}, "str r1, [r2, #12]"}, {api.Ins{Op: api.StrI, D: 7, N: 7, Imm: 31}, "str r7, [r7, #124]"},
	{api.Ins{Op: api.LdrR}, "ldr r0, [r0, r0]"}, {api.Ins{Op: api.LdrR, D: 1, N: 2, M: 3}, "ldr r1, [r2, r3]"}, {api.Ins{Op: api.LdrR, D: 7, N: 7, M: 7}, "ldr r7, [r7, r7]"},
	{api.Ins{Op: api.StrR}, "str r0, [r0, r0]"}, {api.Ins{Op: api.StrR, D: 1, N: 2, M: 3}, "str r1, [r2, r3]"}, {api.Ins{Op: api.StrR, D: 7, N: 7, M: 7}, "str r7, [r7, r7]"},
	{api.Ins{Op: api.LdrL}, "ldr r0, [pc, #0]"}, {api.Ins{Op: api.LdrL, D: 1, Imm: 2}, "ldr r1, [pc, #8]"}, {api.Ins{Op: api.LdrL, D: 7, Imm: 255}, "ldr r7, [pc, #1020]"},
	{api.Ins{Op: api.B, Imm: -1024}, "b #-2048"}, {api.Ins{Op: api.B, Imm: -1}, "b #-2"}, {api.Ins{Op: api.B}, "b #0"}, {api.Ins{Op: api.B, Imm: 1}, "b #2"}, {api.Ins{Op: api.B, Imm: 1023}, "b #2046"},
	{api.Ins{Op: api.Bc, D: 0, Imm: -128}, "beq #-256"}, {api.Ins{Op: api.Bc, D: 1, Imm: 127}, "bne #254"}, {api.Ins{Op: api.Bc, D: 2}, "bcs #0"},
	{api.Ins{Op: api.Bc, D: 3, Imm: -1}, "bcc #-2"}, {api.Ins{Op: api.Bc, D: 4, Imm: 1}, "bmi #2"}, {api.Ins{Op: api.Bc, D: 5, Imm: 2}, "bpl #4"},
	{api.Ins{Op: api.Bc, D: 6, Imm: 3}, "bvs #6"}, {api.Ins{Op: api.Bc, D: 7, Imm: -3}, "bvc #-6"}, {api.Ins{Op: api.Bc, D: 8, Imm: 50}, "bhi #100"},
	{api.Ins{Op: api.Bc, D: 9, Imm: -50}, "bls #-100"}, {api.Ins{Op: api.Bc, D: 10, Imm: 4}, "bge #8"}, {api.Ins{Op: api.Bc, D: 11, Imm: 5}, "blt #10"},
	{api.Ins{Op: api.Bc, D: 12, Imm: 6}, "bgt #12"}, {api.Ins{Op: api.Bc, D: 13, Imm: -128}, "ble #-256"}, {api.Ins{Op: api.Bc, D: 13, Imm: 127}, "ble #254"},
	{api.Ins{Op: api.Nop}, "nop"},
	{api.Ins{Op: api.Bkpt}, "bkpt #0"}, {api.Ins{Op: api.Bkpt, Imm: 255}, "bkpt #255"},
}

// written is an instruction's text, written as the document says, Op by Op.
func written(i api.Ins) string {
	r := func(n int) string { return "r" + strconv.Itoa(n) }
	n := func(times int) string { return "#" + strconv.Itoa(times*i.Imm) }
	join := func(word string, operands ...string) string { return word + " " + strings.Join(operands, ", ") }
	switch i.Op {
	case api.MovI, api.CmpI, api.AddI, api.SubI:
		return join([]string{"movs", "cmp", "adds", "subs"}[i.Op-api.MovI], r(i.D), n(1))
	case api.LslI, api.LsrI, api.AsrI:
		return join([]string{"lsls", "lsrs", "asrs"}[i.Op-api.LslI], r(i.D), r(i.M), n(1))
	case api.AddR, api.SubR:
		return join([]string{"adds", "subs"}[i.Op-api.AddR], r(i.D), r(i.N), r(i.M))
	case api.AddS, api.SubS:
		return join([]string{"adds", "subs"}[i.Op-api.AddS], r(i.D), r(i.N), n(1))
	case api.Alu:
		return join([]string{"ands", "eors", "lsls", "lsrs", "asrs", "adcs", "sbcs", "rors", "tst", "rsbs", "cmp", "cmn", "orrs", "muls", "bics", "mvns"}[i.Imm], r(i.D), r(i.M))
	case api.LdrI, api.StrI:
		return join([]string{"ldr", "str"}[i.Op-api.LdrI], r(i.D), "["+r(i.N), n(4)+"]")
	case api.LdrR, api.StrR:
		return join([]string{"ldr", "str"}[i.Op-api.LdrR], r(i.D), "["+r(i.N), r(i.M)+"]")
	case api.LdrL:
		return join("ldr", r(i.D), "[pc", n(4)+"]")
	case api.B:
		return join("b", n(2))
	case api.Bc:
		return join([]string{"beq", "bne", "bcs", "bcc", "bmi", "bpl", "bvs", "bvc", "bhi", "bls", "bge", "blt", "bgt", "ble"}[i.D], n(2))
	case api.Nop:
		return "nop"
	}
	return join("bkpt", n(1))
}

// lineOf is what List writes of a halfword, without its line feed.
func lineOf(h uint16) string {
	if i, e := thumb.Take(h); e == api.OK {
		return written(i)
	}
	digits := strconv.FormatInt(int64(h), 16)
	return "?" + strings.Repeat("0", 4-len(digits)) + digits
}

// allHalfwords is 0 to 65535.
func allHalfwords() []uint16 {
	code := make([]uint16, 1<<16)
	for k := range code {
		code[k] = uint16(k)
	}
	return code
}

// allTexts is each instruction that there is, by its text.
func allTexts() map[string]api.Ins {
	texts := map[string]api.Ins{}
	for _, h := range allHalfwords() {
		if i, e := thumb.Take(h); e == api.OK {
			texts[written(i)] = i
		}
	}
	return texts
}

// parses looks whether Parse answers of s the instruction that it is the text of by texts, and ErrForm where there is none.
func parses(t *testing.T, texts map[string]api.Ins, s string) {
	t.Helper()
	want, is := texts[s]
	e := api.OK
	if !is {
		e = api.ErrForm
	}
	if i, got := text.Parse(s); i != want || got != e {
		t.Errorf("Parse(%q) = %+v, %v, not %+v, %v", s, i, got, want, e)
	}
}

// programs looks whether Program answers just that of s; of ErrForm at is the line's number.
func programs(t *testing.T, s string, code []uint16, at int, e api.Errno) {
	t.Helper()
	got, line, err := text.Program(s)
	if !slices.Equal(got, code) || line != at || err != e {
		t.Errorf("Program(%.60q) = %.20v, %d, %v, not %.20v, %d, %v", s, got, line, err, code, at, e)
	}
}

func TestTextsByHand(t *testing.T) {
	for _, x := range samples {
		if s, is := text.Show(x.i); s != x.s || !is {
			t.Errorf("Show(%+v) = %q, %v, not %q", x.i, s, is, x.s)
		}
		if i, e := text.Parse(x.s); i != x.i || e != api.OK {
			t.Errorf("Parse(%q) = %+v, %v, not %+v", x.s, i, e, x.i)
		}
	}
}

// Each instruction has the text that the document says, no two have one, and it is parsed as the instruction.
func TestEachInstruction(t *testing.T) {
	texts := allTexts()
	if len(texts) != 30465 {
		t.Errorf("%d texts", len(texts))
	}
	for want, i := range texts {
		s, is := text.Show(i)
		if s != want || !is {
			t.Errorf("Show(%+v) = %q, %v, not %q", i, s, is, want)
		}
		if back, e := text.Parse(s); back != i || e != api.OK {
			t.Errorf("Parse(Show(%+v)) = %+v, %v", i, back, e)
		}
	}
}

// Each number of an instruction is put one below and one beyond where it may be, and far out.
func TestShowOfNone(t *testing.T) {
	set := []func(i *api.Ins, n int){
		func(i *api.Ins, n int) { i.Op = n },
		func(i *api.Ins, n int) { i.D = n },
		func(i *api.Ins, n int) { i.N = n },
		func(i *api.Ins, n int) { i.M = n },
		func(i *api.Ins, n int) { i.Imm = n },
	}
	far := []int{-1, 1, 8, 14, 15, 16, 21, 22, 32, 33, 128, 256, 1024, -129, -1025, 1 << 16, math.MaxInt32, math.MinInt32, math.MaxInt, math.MinInt}
	for _, x := range samples {
		for _, put := range set {
			for _, n := range far {
				wrong := x.i
				put(&wrong, n)
				if thumb.Can(wrong) {
					continue
				}
				if s, is := text.Show(wrong); s != "" || is {
					t.Errorf("Show(%+v) = %q, %v", wrong, s, is)
				}
			}
		}
	}
}

// One below and one beyond, by hand: it does not hang on what thumb says.
func TestShowOfNoneByHand(t *testing.T) {
	for _, i := range []api.Ins{
		{Op: -1}, {Op: api.Ops}, {Op: api.Ops + 1}, {Op: math.MaxInt}, {Op: math.MinInt},
		{Op: api.MovI, D: -1}, {Op: api.MovI, D: 8}, {Op: api.MovI, Imm: -1}, {Op: api.MovI, Imm: 256}, {Op: api.MovI, N: 1}, {Op: api.MovI, M: -1},
		{Op: api.CmpI, D: 8}, {Op: api.CmpI, Imm: 256}, {Op: api.AddI, D: -1}, {Op: api.AddI, Imm: -1}, {Op: api.SubI, M: 1}, {Op: api.SubI, Imm: 256},
		{Op: api.LslI, Imm: -1}, {Op: api.LslI, Imm: 32}, {Op: api.LslI, M: 8}, {Op: api.LslI, N: 1},
		{Op: api.LsrI}, {Op: api.LsrI, Imm: 33}, {Op: api.LsrI, M: -1, Imm: 1}, {Op: api.AsrI}, {Op: api.AsrI, Imm: 33}, {Op: api.AsrI, D: 8, Imm: 1},
		{Op: api.AddR, N: 8}, {Op: api.AddR, M: -1}, {Op: api.AddR, Imm: 1}, {Op: api.SubR, N: -1}, {Op: api.SubR, M: 8}, {Op: api.SubR, D: 8},
		{Op: api.AddS, Imm: -1}, {Op: api.AddS, Imm: 8}, {Op: api.AddS, M: 1}, {Op: api.SubS, Imm: -1}, {Op: api.SubS, Imm: 8}, {Op: api.SubS, N: 8},
		{Op: api.Alu, Imm: -1}, {Op: api.Alu, Imm: 16}, {Op: api.Alu, N: 1}, {Op: api.Alu, D: 8}, {Op: api.Alu, M: 8},
		{Op: api.LdrI, Imm: -1}, {Op: api.LdrI, Imm: 32}, {Op: api.LdrI, M: 1}, {Op: api.StrI, Imm: -1}, {Op: api.StrI, Imm: 32}, {Op: api.StrI, N: 8},
		{Op: api.LdrR, M: 8}, {Op: api.LdrR, Imm: 1}, {Op: api.StrR, N: -1}, {Op: api.StrR, Imm: -1}, {Op: api.LdrL, Imm: -1}, {Op: api.LdrL, Imm: 256}, {Op: api.LdrL, N: 1},
		{Op: api.B, Imm: -1025}, {Op: api.B, Imm: 1024}, {Op: api.B, D: 1}, {Op: api.Bc, D: -1}, {Op: api.Bc, D: 14}, {Op: api.Bc, Imm: -129}, {Op: api.Bc, Imm: 128}, {Op: api.Bc, M: 1},
		{Op: api.Nop, D: 1}, {Op: api.Nop, N: 1}, {Op: api.Nop, M: 1}, {Op: api.Nop, Imm: 1}, {Op: api.Bkpt, Imm: -1}, {Op: api.Bkpt, Imm: 256}, {Op: api.Bkpt, D: 1},
	} {
		if s, is := text.Show(i); s != "" || is {
			t.Errorf("Show(%+v) = %q, %v", i, s, is)
		}
	}
}

func TestParseOfNone(t *testing.T) {
	for _, s := range []string{
		"", " ", "\n", ",", "#", "#0", "r", "r0", "?", "?b500", "?2105",
		" movs r0, #0", "movs r0, #0 ", "movs  r0, #0", "movs r0,  #0", "movs r0 , #0", "movs r0,#0", "movsr0, #0", "movs\tr0, #0", "movs r0, # 0",
		"movs", "movs ", "movs r0", "movs r0,", "movs r0, ", "movs r0, #", "movs r0 #0", "movs r0, 0", "movs r0, #0,", "movs r0, #0, #0", "movs r0, r1",
		"ldr r0, [r0,#0]", "ldr r0,[r0, #0]", "ldr r0, [ r0, #0]", "ldr r0, [r0, #0 ]", "ldr r0, [r0, #0] ", "ldr r0, [r0]", "ldr r0, r0, #0", "ldr r0, [r0, #0", "ldr r0, r0, #0]", "ldr r0, [r0, #0]]",
		"MOVS r0, #0", "Movs r0, #0", "movs R0, #0", "movS r0, #0", "NOP", "ldr r0, [PC, #0]", "BEQ #0", "bEQ #0", "B #0",
		"movs r8, #0", "movs r-1, #0", "movs r10, #0", "movs r00, #0", "movs r+1, #0", "movs r-0, #0", "movs r, #0", "movs ra, #0", "movs sp, #0", "movs 0, #0", "movs #0, #0", "adds r0, r8, r0", "adds r0, r0, r8", "ldr r0, [r8, #0]", "ands r8, r0", "ands r0, r8",
		"movs r0, #08", "movs r0, #00", "movs r0, #+1", "movs r0, #-0", "movs r0, #-1", "movs r0, #256", "movs r0, #0x1", "movs r0, #1_0", "movs r0, #1.0", "movs r0, ##1", "movs r0, #a", "movs r0, #-", "movs r0, #4294967296", "movs r0, #18446744073709551616", "movs r0, #99999999999999999999999999",
		"b #00", "b #+2", "b #-0", "b #-02", "b #--2", "b #2048", "b #-2050", "b #1", "b #-1", "b #2047", "b #18446744073709551616", "b #-18446744073709551616", "b 2", "b r0", "b", "b ", "b nop",
		"beq #256", "beq #-258", "beq #3", "beq #-3", "beq", "beq ", "beq r0", "beqq #0", "be #0", "bal #0", "bnv #0", "bxx #0", "beq#0", "beq eq #0", "b eq #0", "bkpt #-1", "bkpt #256", "bkpt", "bkpt r0", "bkptt #0",
		"lsls r0, r0, #32", "lsls r0, r0, #-1", "lsrs r0, r0, #0", "lsrs r0, r0, #33", "asrs r0, r0, #0", "asrs r0, r0, #33", "adds r0, r0, #8", "subs r0, r0, #8", "adds r0, #256", "cmp r0, #256", "subs r0, #-1", "adds r0, r0, #-1",
		"ldr r0, [r0, #128]", "ldr r0, [r0, #2]", "ldr r0, [r0, #-4]", "ldr r0, [r0, #1]", "ldr r0, [r0, #125]", "str r0, [r0, #128]", "str r0, [r0, #3]", "ldr r0, [pc, #1024]", "ldr r0, [pc, #1022]", "ldr r0, [pc, #-4]", "ldr r0, [r0, #04]", "ldr r0, [r0, #+4]", "ldr r0, [r0, #-0]",
		"str r0, [pc, #0]", "ldr r0, [pc, r0]", "ldr r0, [sp, #0]", "ldr pc, [r0, #0]",
		"movs r0, r0, #0", "cmp r0, r0, #0", "cmp r0, r0, r0", "tst r0, #0", "ands r0, #0", "ands r0, r0, r0", "ands r0", "rsbs r0, r0, #0", "rors r0, r0, #1", "mvns r0, #0", "muls r0, r0, r0", "lsls r0, #1", "lsls r0, r0, r0", "adds r0, r0", "subs r0, r0", "adds r0", "eor r0, r0", "add r0, r0, r0", "mov r0, #0", "nop #0", "nop r0", "nop ", " nop", "no", "nopp", "nop\n", "nop\r", "nop\x00",
		"movs r0, #0\n", "movs r0, #0\r\n", "\nmovs r0, #0", "movs r0, #0\nnop", "b #0\n", "ldr r0, [r0, #0]\n",
		"D, I", "movs D, I", "A D, M", "bC H", "b H", "bkpt I", "\xff", "movs r0, #0\xff", "movs r\xff, #0", "\u00a0nop", "movs r\u0660, #0", "movs r0, #\u0661", "movs r0\uff0c #0",
	} {
		if i, e := text.Parse(s); i != (api.Ins{}) || e != api.ErrForm {
			t.Errorf("Parse(%q) = %+v, %v", s, i, e)
		}
	}
}

// Of each text by hand a byte is left out, put in and changed at each place: what comes of it is an instruction's text, or none.
func TestParseOfNeighbours(t *testing.T) {
	texts := allTexts()
	bytes := "0123456789abcdefghijklmnopqrstuvwxyz ,#[]-+?R\n\t\r\x00\x80\xff"
	for _, x := range samples {
		for at := range len(x.s) + 1 {
			for _, c := range []byte(bytes) {
				parses(t, texts, x.s[:at]+string([]byte{c})+x.s[at:])
				if at < len(x.s) {
					parses(t, texts, x.s[:at]+string([]byte{c})+x.s[at+1:])
				}
			}
			if at < len(x.s) {
				parses(t, texts, x.s[:at]+x.s[at+1:])
				parses(t, texts, x.s[:at]+strings.ToUpper(x.s[at:]))
			}
			parses(t, texts, x.s[:at])
			parses(t, texts, x.s[at:])
		}
	}
}

// A word of one instruction with the operands of another is an instruction's text, or none.
func TestParseOfOtherOperands(t *testing.T) {
	texts := allTexts()
	for _, x := range samples {
		word, _, _ := strings.Cut(x.s, " ")
		for _, y := range samples {
			_, operands, _ := strings.Cut(y.s, " ")
			parses(t, texts, word+" "+operands)
			parses(t, texts, x.s+y.s)
			parses(t, texts, x.s+", "+operands)
		}
	}
}

// Any number in the place of each that an instruction has: only those that its field has room for are taken.
func TestParseOfNumbers(t *testing.T) {
	texts := allTexts()
	for _, shape := range []string{
		"movs r1, #@", "cmp r1, #@", "adds r1, #@", "subs r1, #@", "lsls r1, r2, #@", "lsrs r1, r2, #@", "asrs r1, r2, #@", "adds r1, r2, #@", "subs r1, r2, #@",
		"ldr r1, [r2, #@]", "str r1, [r2, #@]", "ldr r1, [pc, #@]", "b #@", "beq #@", "ble #@", "bkpt #@",
		"movs r@, #1", "lsls r@, r1, #1", "lsls r1, r@, #1", "adds r@, r1, r2", "adds r1, r@, r2", "adds r1, r2, r@", "subs r@, r1, #1", "subs r1, r@, #1", "ands r@, r1", "ands r1, r@",
		"ldr r@, [r1, r2]", "ldr r1, [r@, r2]", "ldr r1, [r2, r@]", "str r@, [r1, #4]", "str r1, [r@, #4]", "ldr r@, [pc, #4]",
	} {
		for n := -2100; n <= 2100; n++ {
			digits := strconv.Itoa(n)
			for _, s := range []string{digits, "0" + digits, "+" + digits, "-" + digits} {
				parses(t, texts, strings.Replace(shape, "@", s, 1))
			}
		}
	}
}

func TestList(t *testing.T) {
	for _, x := range []struct {
		code []uint16
		want string
	}{
		{nil, ""}, {[]uint16{}, ""},
		{[]uint16{0x2105}, "movs r1, #5\n"}, {[]uint16{0x2001, 0xbe00}, "movs r0, #1\nbkpt #0\n"},
		{[]uint16{0xb500, 0xde00, 0xdf0f, 0xffff, 0xe800, 0x4400, 0x5200, 0xbf01}, "?b500\n?de00\n?df0f\n?ffff\n?e800\n?4400\n?5200\n?bf01\n"},
		{[]uint16{0xbf00, 0xc000, 0xbf00, 0xe7fe, 0xd0ff, 0x68d1}, "nop\n?c000\nnop\nb #-4\nbeq #-2\nldr r1, [r2, #12]\n"},
	} {
		if s := text.List(x.code); s != x.want {
			t.Errorf("List(%04x) = %q, not %q", x.code, s, x.want)
		}
	}
}

func TestListOfEachHalfword(t *testing.T) {
	want := strings.Builder{}
	for _, h := range allHalfwords() {
		s := lineOf(h) + "\n"
		want.WriteString(s)
		if got := text.List([]uint16{h}); got != s {
			t.Errorf("List(%04x) = %q, not %q", h, got, s)
		}
	}
	if text.List(allHalfwords()) != want.String() {
		t.Error("List of all halfwords")
	}
}

func TestProgram(t *testing.T) {
	for _, x := range []struct {
		s    string
		code []uint16
	}{
		{"", nil}, {"\n", nil}, {"\n\n\n", nil},
		{"movs r1, #5", []uint16{0x2105}}, {"movs r1, #5\n", []uint16{0x2105}}, {"\nmovs r1, #5", []uint16{0x2105}}, {"\n\nmovs r1, #5\n\n\n", []uint16{0x2105}},
		{"movs r0, #1\nbkpt #0", []uint16{0x2001, 0xbe00}}, {"movs r0, #1\nbkpt #0\n", []uint16{0x2001, 0xbe00}}, {"movs r0, #1\n\n\nbkpt #0\n", []uint16{0x2001, 0xbe00}},
		{"?b500", []uint16{0xb500}}, {"?ffff\n", []uint16{0xffff}}, {"nop\n?c000\n?de0f\nnop", []uint16{0xbf00, 0xc000, 0xde0f, 0xbf00}},
	} {
		programs(t, x.s, x.code, 0, api.OK)
	}
}

// Lines that are none, at the first place, in the middle, and last; empty lines count.
func TestProgramOfWrongLines(t *testing.T) {
	for _, wrong := range []string{
		" ", "x", "nop ", " nop", "NOP", "nop\r", "\r", "\t", "nop;", "movs r8, #0", "movs r0, #256", "movs r0,#0", "b #1", "lsrs r0, r0, #0", "\x00", "\xff",
		"?", "??", "?b50", "?b5000", "?0b500", "?B500", "?b50G", "?b500 ", "? b500", " ?b500", "b500", "?0xb500", "?xb500", "?-b50", "?+b50", "?b_00", "?1b500", "?10000b500", "?ffffb500", "?Ffff", "?fffF", "?b500?", "?nop", "?b500\r", "?\u0660\u0660",
		"?2105", "?bf00", "?be00", "?0000", "?dd7f", "?e7fe",
	} {
		for _, x := range []struct {
			ahead string
			at    int
		}{{"", 0}, {"\n", 1}, {"\n\n\n", 3}, {"nop\n", 1}, {"nop\n?b500\n\nb #0\n", 4}, {strings.Repeat("nop\n", 999), 999}} {
			programs(t, x.ahead+wrong, nil, x.at, api.ErrForm)
			programs(t, x.ahead+wrong+"\n", nil, x.at, api.ErrForm)
			programs(t, x.ahead+wrong+"\nnop\n", nil, x.at, api.ErrForm)
			programs(t, x.ahead+wrong+"\n"+wrong+"\nx\n", nil, x.at, api.ErrForm)
		}
	}
}

// A '?' with any four digits is a line just where the halfword is no instruction.
func TestProgramOfDigits(t *testing.T) {
	for _, h := range allHalfwords() {
		s := "?" + strconv.FormatInt(0x10000|int64(h), 16)[1:]
		if lineOf(h) == s {
			programs(t, s, []uint16{h}, 0, api.OK)
		} else {
			programs(t, s, nil, 0, api.ErrForm)
		}
		if upper := strings.ToUpper(s); upper != s {
			programs(t, upper, nil, 0, api.ErrForm)
		}
	}
}

func TestProgramOfManyBytes(t *testing.T) {
	nops := strings.Repeat("nop\n", maxText/4)
	code := slices.Repeat([]uint16{0xbf00}, maxText/4)
	programs(t, nops, code, 0, api.OK)
	programs(t, nops+"\n", nil, 0, api.ErrLong)
	programs(t, nops+"n", nil, 0, api.ErrLong)
	programs(t, nops[:maxText-1], code, 0, api.OK)
	programs(t, nops[:maxText-1]+"x", nil, maxText/4-1, api.ErrForm)
	programs(t, strings.Repeat("\n", maxText), nil, 0, api.OK)
	programs(t, strings.Repeat("\n", maxText+1), nil, 0, api.ErrLong)
	programs(t, strings.Repeat("\n", maxText-1)+"x", nil, maxText-1, api.ErrForm)
	programs(t, strings.Repeat("x", maxText), nil, 0, api.ErrForm)
	programs(t, strings.Repeat("x", maxText+1), nil, 0, api.ErrLong)
	programs(t, "movs r0, #"+strings.Repeat("1", maxText-10), nil, 0, api.ErrForm)
	programs(t, "?"+strings.Repeat("0", maxText-1), nil, 0, api.ErrForm)
}

// Code and texts are the same there and back; a text of all halfwords is too long for one Program.
func TestThereAndBack(t *testing.T) {
	all := allHalfwords()
	for code := range slices.Chunk(all, 1<<14) {
		s := text.List(code)
		programs(t, s, code, 0, api.OK)
		programs(t, s[:len(s)-1], code, 0, api.OK)
		programs(t, "\n"+strings.ReplaceAll(s, "\n", "\n\n"), code, 0, api.OK)
		for line := range strings.Lines(s) {
			one, at, e := text.Program(line)
			if e != api.OK || at != 0 || text.List(one) != line {
				t.Errorf("List(Program(%q)) = %q, %d, %v", line, text.List(one), at, e)
			}
		}
	}
	for _, h := range all {
		i, e := thumb.Take(h)
		if e != api.OK {
			continue
		}
		s, _ := text.Show(i)
		back, e := text.Parse(s)
		if back != i || e != api.OK {
			t.Errorf("Parse(Show(%+v)) = %+v, %v", i, back, e)
		}
		if again, is := text.Show(back); again != s || !is {
			t.Errorf("Show(Parse(%q)) = %q, %v", s, again, is)
		}
	}
}

// Any texts and any instructions: each call ends, and what it answers is zero beside an error.
func TestAnything(t *testing.T) {
	r := rand.New(rand.NewSource(4))
	texts := allTexts()
	pieces := []string{"movs", "cmp", "ldr", "str", "b", "beq", "nop", "bkpt", "ands", " ", " ", ", ", "r0", "r7", "r9", "#0", "#12", "#-2", "#", "[", "]", "pc", "\n", "?", "b500", "\xff", "0", "99999999999999999999"}
	for range 20000 {
		s := ""
		for range r.Intn(9) {
			s += pieces[r.Intn(len(pieces))]
		}
		parses(t, texts, s)
		code, at, e := text.Program(s)
		if e != api.OK && (len(code) > 0 || e != api.ErrForm) || e == api.OK && at != 0 {
			t.Errorf("Program(%q) = %v, %d, %v", s, code, at, e)
		}
		i := api.Ins{Op: r.Intn(25) - 2, D: r.Intn(18) - 2, N: r.Intn(10) - 1, M: r.Intn(10) - 1, Imm: r.Intn(300) - 20}
		if s, is := text.Show(i); is != thumb.Can(i) || is != (s != "") {
			t.Errorf("Show(%+v) = %q, %v", i, s, is)
		}
	}
}

// List changes nothing of its code, the room behind it included.
func TestNothingHandedInIsChanged(t *testing.T) {
	whole := allHalfwords()[0xb000:0xc000]
	want := slices.Clone(whole)
	first := text.List(whole[:100])
	if !slices.Equal(whole, want) {
		t.Error("List changed its code")
	}
	kept := strings.Clone(first)
	for k := range whole {
		whole[k] = 0xbf00
	}
	if first != kept {
		t.Error("List's text hangs on its code")
	}
}

// What is done to one answer, its spare room included, is not to be seen in another.
func TestAnswersAreNewMemory(t *testing.T) {
	s := "nop\n?b500\nmovs r1, #5\n"
	want := []uint16{0xbf00, 0xb500, 0x2105}
	first, _, _ := text.Program(s)
	second, _, _ := text.Program(s)
	for k := range cap(first) {
		first[:cap(first)][k] = 0x1234
	}
	_ = append(first, 1, 2, 3)
	if !slices.Equal(second, want) {
		t.Errorf("Program's answers share memory: %04x", second)
	}
	programs(t, s, want, 0, api.OK)
}
