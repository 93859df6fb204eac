package core_test

import (
	"math"
	"slices"
	"strings"
	"testing"

	"bauta/api"
	"bauta/core"
	"bauta/mem"
	"bauta/text"
	"bauta/thumb"
)

// Where things lie, as the document writes it; none is a halfword that is no instruction.
const (
	sram = uint32(0x20000000)
	port = uint32(0x40000000)
	none = uint16(0xb500)
)

// regs is the words of some registers.
type regs map[int]uint32

// filled is a state at pc in which no register has what another one has, but for those of r.
func filled(pc uint32, r regs) api.State {
	s := api.State{PC: pc}
	for k := range s.R {
		s.R[k] = 0x80a0c001 + 0x01010101*uint32(k)
	}
	for k, w := range r {
		s.R[k] = w
	}
	return s
}

// flagged is s with flags as letters say: a great one is set, a small one is not, one that is not there stays.
func flagged(s api.State, letters string) api.State {
	for k := range len(letters) {
		set := letters[k] < 'a'
		switch strings.ToUpper(letters)[k] {
		case 'N':
			s.N = set
		case 'Z':
			s.Z = set
		case 'C':
			s.C = set
		case 'V':
			s.V = set
		}
	}
	return s
}

// allFlags is s with each of the sixteen that flags can be: N is worth 8, Z 4, C 2, V 1.
func allFlags(s api.State) []api.State {
	l := []api.State{}
	for k := range 16 {
		s.N, s.Z, s.C, s.V = k&8 != 0, k&4 != 0, k&2 != 0, k&1 != 0
		l = append(l, s)
	}
	return l
}

// halfword is the halfword of an instruction's text.
func halfword(t *testing.T, line string) uint16 {
	t.Helper()
	i, e := text.Parse(line)
	if e != api.OK {
		t.Fatalf("Parse(%q): %v", line, e)
	}
	h, _ := thumb.Put(i)
	return h
}

// holding is code of n halfwords that are no instructions, but for h at the address pc.
func holding(n int, pc uint32, h uint16) []uint16 {
	code := slices.Repeat([]uint16{none}, n)
	code[pc/2] = h
	return code
}

// goes looks that a Step goes from s to want.
func goes(t *testing.T, what string, s api.State, m *mem.Mem, want api.State) {
	t.Helper()
	if got, stopped, e := core.Step(s, m); got != want || stopped || e != api.OK {
		t.Errorf("%s: Step(%+v)\n = %+v, %v, %v\nnot %+v", what, s, got, stopped, e, want)
	}
}

// refuses looks that a Step answers s, false and the error, and that memory stays as it is.
func refuses(t *testing.T, what string, s api.State, m *mem.Mem, err api.Errno) {
	t.Helper()
	words, bus, drawn := []uint32{}, uint32(0), 0
	if m != nil {
		words, bus, drawn = m.Words(), m.Bus(), m.Drawn()
	}
	if got, stopped, e := core.Step(s, m); got != s || stopped || e != err {
		t.Errorf("%s: Step(%+v)\n = %+v, %v, %v\nnot %v", what, s, got, stopped, e, err)
	}
	if m != nil {
		has(t, what, m, bus, drawn, words...)
	}
}

// has looks what is on the bus, drawn, and in memory.
func has(t *testing.T, what string, m *mem.Mem, bus uint32, drawn int, words ...uint32) {
	t.Helper()
	if m.Bus() != bus || m.Drawn() != drawn || !slices.Equal(m.Words(), words) {
		t.Errorf("%s: Bus %#x, Drawn %d, Words %x, not %#x, %d, %x", what, m.Bus(), m.Drawn(), m.Words(), bus, drawn, words)
	}
}

// act is an instruction, registers and flags ahead of it, the registers that change, and the flags that are turned.
type act struct {
	line  string
	has   regs
	ahead string
	sets  regs
	turns string
}

// acts looks at each: with all flags ahead that its own leave open, and at a PC that is a multiple of 4 and at one that is not, all else stays.
func acts(t *testing.T, l []act) {
	t.Helper()
	for _, x := range l {
		h := halfword(t, x.line)
		for _, pc := range []uint32{4, 6} {
			for _, s := range allFlags(filled(pc, x.has)) {
				s = flagged(s, x.ahead)
				want := flagged(s, x.turns)
				want.PC = pc + 2
				for r, w := range x.sets {
					want.R[r] = w
				}
				m := mem.New(holding(4, pc, h), 1, []uint32{9})
				goes(t, x.line, s, m, want)
				has(t, x.line, m, 0, 0, 0)
			}
		}
	}
}

// P6.1: without memory there is nothing to do, wherever the machine is.
func TestStepOfNoMemory(t *testing.T) {
	for _, pc := range []uint32{0, 1, 2, sram, port, math.MaxUint32} {
		for _, s := range allFlags(filled(pc, nil)) {
			refuses(t, "nil", s, nil, api.ErrArg)
		}
	}
	refuses(t, "nil", api.State{}, nil, api.ErrArg)
}

// P6.1: an instruction is fetched at PC: at the first halfword, at the last one, but not beyond, nor at an odd address, nor where words are.
func TestStepWhere(t *testing.T) {
	movs := halfword(t, "movs r1, #5")
	for n := 1; n <= 4; n++ {
		m := mem.New(slices.Repeat([]uint16{movs}, n), 4, []uint32{9})
		for k := range uint32(n) {
			s := filled(2*k, nil)
			want := flagged(filled(2*k+2, regs{1: 5}), "nz")
			goes(t, "movs r1, #5", s, m, want)
			refuses(t, "at an odd PC", filled(2*k+1, nil), m, api.ErrFault)
		}
		for _, pc := range []uint32{uint32(2 * n), uint32(2*n + 1), uint32(2*n + 2), sram, sram + 2, port, math.MaxUint32 - 1, math.MaxUint32} {
			refuses(t, "beyond", filled(pc, nil), m, api.ErrFault)
		}
	}
	refuses(t, "no code", api.State{}, mem.New(nil, 4, []uint32{9}), api.ErrFault)
}

// P6.1: the last halfword that there can be; behind it PC is beyond, and the next Step a fault.
func TestStepAtTheEnd(t *testing.T) {
	m := mem.New(slices.Repeat([]uint16{halfword(t, "adds r0, #1")}, 60001), 0, nil)
	s := filled(119998, regs{0: 4})
	want := flagged(filled(120000, regs{0: 5}), "nzcv")
	goes(t, "the last one", s, m, want)
	refuses(t, "beyond", want, m, api.ErrFault)
}

// P6.1: what is no instruction.
func TestStepOfNoInstruction(t *testing.T) {
	for _, h := range []uint16{none, 0x4400, 0x4700, 0x47ff, 0x5200, 0x7800, 0x8000, 0x9000, 0xa000, 0xb000, 0xbf10, 0xc000, 0xde00, 0xdf00, 0xe800, 0xf000, 0xffff} {
		for _, s := range allFlags(filled(2, nil)) {
			refuses(t, "no instruction", s, mem.New(holding(3, 2, h), 2, []uint32{9}), api.ErrUndef)
		}
	}
	for h := range 1 << 16 {
		if _, e := thumb.Take(uint16(h)); e != api.OK {
			refuses(t, "no instruction", filled(0, nil), mem.New([]uint16{uint16(h)}, 1, nil), e)
		}
	}
}

// P6.1: which errors go ahead of which: no memory, no halfword, no instruction, no word.
func TestStepFirstError(t *testing.T) {
	refuses(t, "nil at an odd PC", filled(3, nil), nil, api.ErrArg)
	refuses(t, "odd, and no instruction", filled(1, nil), mem.New([]uint16{none}, 0, nil), api.ErrFault)
	refuses(t, "no instruction, and no word", filled(0, regs{0: 3}), mem.New([]uint16{0x7800}, 0, nil), api.ErrUndef)
}

// P6.1: with an error of a load or a store nothing has changed, neither in the state nor in memory.
func TestStepErrors(t *testing.T) {
	for _, x := range []struct {
		line string
		has  regs
		err  api.Errno
	}{
		{"ldr r0, [r1, #0]", regs{1: sram + 8}, api.ErrFault},
		{"ldr r0, [r1, #4]", regs{1: sram + 4}, api.ErrFault},
		{"ldr r1, [r1, #0]", regs{1: sram - 4}, api.ErrFault},
		{"ldr r0, [r1, #4]", regs{1: sram + 1}, api.ErrFault},
		{"ldr r0, [r1, #0]", regs{1: sram + 2}, api.ErrFault},
		{"ldr r0, [r1, #0]", regs{1: sram + 3}, api.ErrFault},
		{"ldr r0, [r1, #0]", regs{1: port}, api.ErrTape},
		{"ldr r0, [r1, #0]", regs{1: port + 4}, api.ErrFault},
		{"ldr r0, [r1, #0]", regs{1: port + 2}, api.ErrFault},
		{"ldr r0, [r1, #0]", regs{1: 8}, api.ErrFault},
		{"ldr r0, [r1, #0]", regs{1: 0xfffffffc}, api.ErrFault},
		{"ldr r0, [r1, r2]", regs{1: sram, 2: 8}, api.ErrFault},
		{"ldr r0, [r1, r2]", regs{1: sram + 2, 2: 1}, api.ErrFault},
		{"ldr r0, [r1, r2]", regs{1: port, 2: 0}, api.ErrTape},
		{"ldr r1, [r1, r2]", regs{1: port - 4, 2: 4}, api.ErrTape},
		{"ldr r0, [r1, r1]", regs{1: sram}, api.ErrTape},
		{"ldr r0, [pc, #4]", nil, api.ErrFault},
		{"ldr r0, [pc, #1020]", nil, api.ErrFault},
		{"str r0, [r1, #0]", regs{1: sram + 8}, api.ErrFault},
		{"str r0, [r1, #4]", regs{1: sram + 4}, api.ErrFault},
		{"str r0, [r1, #0]", regs{1: sram + 2}, api.ErrFault},
		{"str r0, [r1, #0]", regs{1: port}, api.ErrFault},
		{"str r0, [r1, #0]", regs{1: 0}, api.ErrFault},
		{"str r0, [r1, #4]", regs{1: 0xfffffffc}, api.ErrFault},
		{"str r0, [r1, r2]", regs{1: sram, 2: 8}, api.ErrFault},
		{"str r0, [r1, r2]", regs{1: port, 2: 0}, api.ErrFault},
		{"str r0, [r1, r1]", regs{1: sram}, api.ErrFault},
	} {
		// The tape has been drawn to its end, and the bus has its last word.
		m := mem.New(holding(4, 2, halfword(t, x.line)), 2, []uint32{0x77777777})
		m.Load(port)
		m.Set(0, 0x11111111)
		m.Set(1, 0x22222222)
		for _, s := range allFlags(filled(2, x.has)) {
			refuses(t, x.line, s, m, x.err)
		}
	}
}

// P6.2: Flags sets N and Z alone.
func TestFlags(t *testing.T) {
	for w, letters := range map[uint32]string{0: "nZ", 1: "nz", 2: "nz", 0x7fffffff: "nz", 0x80000000: "Nz", 0x80000001: "Nz", 0xffffffff: "Nz"} {
		for _, s := range allFlags(filled(7, regs{0: w})) {
			if got, want := core.Flags(s, w), flagged(s, letters); got != want {
				t.Errorf("Flags(%+v, %#x)\n = %+v\nnot %+v", s, w, got, want)
			}
		}
	}
}

// P6.2: a number, and shifts by one: C and V stay, but that C is what went out of a shift, and stays with one by 0.
func TestMoves(t *testing.T) {
	acts(t, []act{
		{"movs r1, #5", nil, "", regs{1: 5}, "nz"},
		{"movs r7, #0", nil, "", regs{7: 0}, "nZ"},
		{"movs r0, #255", nil, "", regs{0: 255}, "nz"},
		{"lsls r0, r1, #0", regs{1: 0x80000001}, "", regs{0: 0x80000001}, "Nz"},
		{"lsls r0, r1, #0", regs{1: 0}, "", regs{0: 0}, "nZ"},
		{"lsls r1, r1, #0", regs{1: 7}, "", nil, "nz"},
		{"lsls r0, r1, #1", regs{1: 0x80000001}, "", regs{0: 2}, "nzC"},
		{"lsls r0, r1, #1", regs{1: 0x40000000}, "", regs{0: 0x80000000}, "Nzc"},
		{"lsls r0, r1, #1", regs{1: 0x80000000}, "", regs{0: 0}, "nZC"},
		{"lsls r0, r1, #31", regs{1: 3}, "", regs{0: 0x80000000}, "NzC"},
		{"lsls r0, r0, #31", regs{0: 0xfffffffd}, "", regs{0: 0x80000000}, "Nzc"},
		{"lsrs r0, r1, #1", regs{1: 0x80000001}, "", regs{0: 0x40000000}, "nzC"},
		{"lsrs r0, r1, #1", regs{1: 1}, "", regs{0: 0}, "nZC"},
		{"lsrs r2, r2, #31", regs{2: 0x80000000}, "", regs{2: 1}, "nzc"},
		{"lsrs r2, r2, #31", regs{2: 0xc0000000}, "", regs{2: 1}, "nzC"},
		{"lsrs r0, r1, #32", regs{1: 0x80000000}, "", regs{0: 0}, "nZC"},
		{"lsrs r0, r1, #32", regs{1: 0x7fffffff}, "", regs{0: 0}, "nZc"},
		{"asrs r0, r1, #1", regs{1: 0x80000001}, "", regs{0: 0xc0000000}, "NzC"},
		{"asrs r0, r1, #1", regs{1: 0x7ffffffe}, "", regs{0: 0x3fffffff}, "nzc"},
		{"asrs r0, r1, #1", regs{1: 1}, "", regs{0: 0}, "nZC"},
		{"asrs r5, r5, #31", regs{5: 0x80000000}, "", regs{5: 0xffffffff}, "Nzc"},
		{"asrs r5, r5, #31", regs{5: 0x40000000}, "", regs{5: 0}, "nZC"},
		{"asrs r0, r1, #32", regs{1: 0x80000000}, "", regs{0: 0xffffffff}, "NzC"},
		{"asrs r0, r1, #32", regs{1: 0x7fffffff}, "", regs{0: 0}, "nZc"},
	})
}

// P6.2: sums: of 0, below 0, with a carry, and out of the range of numbers with a sign.
func TestSums(t *testing.T) {
	acts(t, []act{
		{"adds r0, #1", regs{0: 0xffffffff}, "", regs{0: 0}, "nZCv"},
		{"adds r0, #0", regs{0: 0}, "", nil, "nZcv"},
		{"adds r3, #255", regs{3: 1}, "", regs{3: 256}, "nzcv"},
		{"adds r3, #1", regs{3: 0x7fffffff}, "", regs{3: 0x80000000}, "NzcV"},
		{"adds r3, #255", regs{3: 0x80000000}, "", regs{3: 0x800000ff}, "Nzcv"},
		{"adds r3, #255", regs{3: 0xffffff02}, "", regs{3: 1}, "nzCv"},
		{"adds r0, r1, r2", regs{1: 0x80000000, 2: 0x80000000}, "", regs{0: 0}, "nZCV"},
		{"adds r0, r1, r2", regs{1: 0x80000000, 2: 0xffffffff}, "", regs{0: 0x7fffffff}, "nzCV"},
		{"adds r0, r1, r2", regs{1: 0xffffffff, 2: 0xffffffff}, "", regs{0: 0xfffffffe}, "NzCv"},
		{"adds r0, r1, r2", regs{1: 0x7fffffff, 2: 0x7fffffff}, "", regs{0: 0xfffffffe}, "NzcV"},
		{"adds r2, r2, r2", regs{2: 3}, "", regs{2: 6}, "nzcv"},
		{"adds r0, r1, #7", regs{1: 0xfffffff9}, "", regs{0: 0}, "nZCv"},
		{"adds r0, r1, #1", regs{1: 0x7fffffff}, "", regs{0: 0x80000000}, "NzcV"},
		{"adds r1, r1, #0", regs{1: 0x80000000}, "", nil, "Nzcv"},
		{"cmn r0, r1", regs{0: 1, 1: 0xffffffff}, "", nil, "nZCv"},
		{"cmn r0, r1", regs{0: 0x40000000, 1: 0x40000000}, "", nil, "NzcV"},
		{"cmn r0, r1", regs{0: 2, 1: 3}, "C", nil, "nzcv"},
		{"adcs r0, r1", regs{0: 2, 1: 3}, "c", regs{0: 5}, "nzcv"},
		{"adcs r0, r1", regs{0: 2, 1: 3}, "C", regs{0: 6}, "nzcv"},
		{"adcs r0, r1", regs{0: 0, 1: 0xffffffff}, "c", regs{0: 0xffffffff}, "Nzcv"},
		{"adcs r0, r1", regs{0: 0, 1: 0xffffffff}, "C", regs{0: 0}, "nZCv"},
		{"adcs r0, r1", regs{0: 0x7fffffff, 1: 0}, "C", regs{0: 0x80000000}, "NzcV"},
		{"adcs r0, r1", regs{0: 0xffffffff, 1: 0xffffffff}, "C", regs{0: 0xffffffff}, "NzCv"},
		{"adcs r0, r1", regs{0: 0x80000000, 1: 0x80000000}, "c", regs{0: 0}, "nZCV"},
		{"adcs r4, r4", regs{4: 0x80000000}, "C", regs{4: 1}, "nzCV"},
	})
}

// P6.2: what is less: C says that what is taken away is not above.
func TestDifferences(t *testing.T) {
	acts(t, []act{
		{"cmp r0, #5", regs{0: 5}, "", nil, "nZCv"},
		{"cmp r0, #6", regs{0: 5}, "", nil, "Nzcv"},
		{"cmp r0, #4", regs{0: 5}, "", nil, "nzCv"},
		{"cmp r0, #0", regs{0: 0}, "", nil, "nZCv"},
		{"cmp r7, #255", regs{7: 0x80000000}, "", nil, "nzCV"},
		{"subs r0, #5", regs{0: 5}, "", regs{0: 0}, "nZCv"},
		{"subs r0, #1", regs{0: 0}, "", regs{0: 0xffffffff}, "Nzcv"},
		{"subs r0, #1", regs{0: 0x80000000}, "", regs{0: 0x7fffffff}, "nzCV"},
		{"subs r6, #255", regs{6: 0xffffffff}, "", regs{6: 0xffffff00}, "NzCv"},
		{"subs r0, r1, r2", regs{1: 7, 2: 7}, "", regs{0: 0}, "nZCv"},
		{"subs r0, r1, r2", regs{1: 7, 2: 8}, "", regs{0: 0xffffffff}, "Nzcv"},
		{"subs r0, r1, r2", regs{1: 0x80000000, 2: 1}, "", regs{0: 0x7fffffff}, "nzCV"},
		{"subs r0, r1, r2", regs{1: 0x7fffffff, 2: 0xffffffff}, "", regs{0: 0x80000000}, "NzcV"},
		{"subs r3, r3, r3", regs{3: 0x80000000}, "", regs{3: 0}, "nZCv"},
		{"subs r0, r1, #7", regs{1: 6}, "", regs{0: 0xffffffff}, "Nzcv"},
		{"subs r0, r1, #7", regs{1: 8}, "", regs{0: 1}, "nzCv"},
		{"subs r1, r1, #0", regs{1: 0}, "", nil, "nZCv"},
		{"subs r0, r1, #1", regs{1: 0x80000000}, "", regs{0: 0x7fffffff}, "nzCV"},
		{"cmp r0, r1", regs{0: 7, 1: 7}, "", nil, "nZCv"},
		{"cmp r0, r1", regs{0: 7, 1: 8}, "", nil, "Nzcv"},
		{"cmp r0, r1", regs{0: 8, 1: 7}, "", nil, "nzCv"},
		{"cmp r0, r1", regs{0: 0x80000000, 1: 1}, "", nil, "nzCV"},
		{"cmp r0, r1", regs{0: 0, 1: 0x80000000}, "", nil, "NzcV"},
		{"sbcs r0, r1", regs{0: 7, 1: 5}, "C", regs{0: 2}, "nzCv"},
		{"sbcs r0, r1", regs{0: 7, 1: 5}, "c", regs{0: 1}, "nzCv"},
		{"sbcs r0, r1", regs{0: 7, 1: 7}, "C", regs{0: 0}, "nZCv"},
		{"sbcs r0, r1", regs{0: 7, 1: 7}, "c", regs{0: 0xffffffff}, "Nzcv"},
		{"sbcs r0, r1", regs{0: 0x80000000, 1: 0}, "c", regs{0: 0x7fffffff}, "nzCV"},
		{"sbcs r0, r1", regs{0: 0, 1: 0xffffffff}, "c", regs{0: 0}, "nZcv"},
		{"sbcs r0, r1", regs{0: 0, 1: 0x80000000}, "C", regs{0: 0x80000000}, "NzcV"},
		{"sbcs r0, r1", regs{0: 0, 1: 0x80000000}, "c", regs{0: 0x7fffffff}, "nzcv"},
		{"rsbs r0, r1", regs{1: 1}, "", regs{0: 0xffffffff}, "Nzcv"},
		{"rsbs r0, r1", regs{1: 0xffffffff}, "", regs{0: 1}, "nzcv"},
		{"rsbs r0, r1", regs{1: 0}, "", regs{0: 0}, "nZCv"},
		{"rsbs r2, r2", regs{2: 0x80000000}, "", nil, "NzcV"},
	})
}

// P6.2: bit by bit, and products modulo 2^32: C and V stay.
func TestBits(t *testing.T) {
	acts(t, []act{
		{"ands r0, r1", regs{0: 0xc, 1: 0xa}, "", regs{0: 8}, "nz"},
		{"ands r0, r1", regs{0: 0x80000001, 1: 0xfffffff0}, "", regs{0: 0x80000000}, "Nz"},
		{"ands r0, r1", regs{0: 5, 1: 0xa}, "", regs{0: 0}, "nZ"},
		{"eors r0, r1", regs{0: 0xc, 1: 0xa}, "", regs{0: 6}, "nz"},
		{"eors r0, r1", regs{0: 0x80000001, 1: 1}, "", regs{0: 0x80000000}, "Nz"},
		{"eors r6, r6", regs{6: 0xffffffff}, "", regs{6: 0}, "nZ"},
		{"orrs r0, r1", regs{0: 0xc, 1: 0xa}, "", regs{0: 0xe}, "nz"},
		{"orrs r0, r1", regs{0: 0x80000000, 1: 1}, "", regs{0: 0x80000001}, "Nz"},
		{"orrs r0, r1", regs{0: 0, 1: 0}, "", nil, "nZ"},
		{"bics r0, r1", regs{0: 0xc, 1: 0xa}, "", regs{0: 4}, "nz"},
		{"bics r0, r1", regs{0: 0xffffffff, 1: 0x7fffffff}, "", regs{0: 0x80000000}, "Nz"},
		{"bics r0, r0", regs{0: 0xffffffff}, "", regs{0: 0}, "nZ"},
		{"mvns r0, r1", regs{1: 0}, "", regs{0: 0xffffffff}, "Nz"},
		{"mvns r0, r1", regs{1: 0xffffffff}, "", regs{0: 0}, "nZ"},
		{"mvns r4, r4", regs{4: 0xfffffff0}, "", regs{4: 0xf}, "nz"},
		{"tst r0, r1", regs{0: 0xc, 1: 0xa}, "", nil, "nz"},
		{"tst r0, r1", regs{0: 0x80000001, 1: 0x80000000}, "", nil, "Nz"},
		{"tst r0, r1", regs{0: 5, 1: 0xa}, "", nil, "nZ"},
		{"muls r0, r1", regs{0: 6, 1: 7}, "", regs{0: 42}, "nz"},
		{"muls r0, r1", regs{0: 0x10000, 1: 0x10000}, "", regs{0: 0}, "nZ"},
		{"muls r0, r1", regs{0: 0x10001, 1: 0x10001}, "", regs{0: 0x20001}, "nz"},
		{"muls r0, r1", regs{0: 0xffffffff, 1: 3}, "", regs{0: 0xfffffffd}, "Nz"},
		{"muls r5, r5", regs{5: 0xffffffff}, "", regs{5: 1}, "nz"},
		{"muls r0, r1", regs{0: 0, 1: 0xffffffff}, "", nil, "nZ"},
	})
}

// P6.2: shifts by a register: its lowest byte alone counts; C is what went out last, and stays with a shift by 0.
func TestShiftsByRegister(t *testing.T) {
	const a, b = 0x80000001, 0x7ffffffe
	acts(t, []act{
		{"lsls r0, r1", regs{0: a, 1: 0}, "", nil, "Nz"},
		{"lsls r0, r1", regs{0: a, 1: 1}, "", regs{0: 2}, "nzC"},
		{"lsls r0, r1", regs{0: a, 1: 31}, "", regs{0: 0x80000000}, "Nzc"},
		{"lsls r0, r1", regs{0: a, 1: 32}, "", regs{0: 0}, "nZC"},
		{"lsls r0, r1", regs{0: b, 1: 32}, "", regs{0: 0}, "nZc"},
		{"lsls r0, r1", regs{0: a, 1: 33}, "", regs{0: 0}, "nZc"},
		{"lsls r0, r1", regs{0: 0xffffffff, 1: 255}, "", regs{0: 0}, "nZc"},
		{"lsls r0, r1", regs{0: a, 1: 256}, "", nil, "Nz"},
		{"lsls r0, r1", regs{0: a, 1: 0xffffff01}, "", regs{0: 2}, "nzC"},
		{"lsrs r0, r1", regs{0: 0, 1: 0}, "", nil, "nZ"},
		{"lsrs r0, r1", regs{0: a, 1: 1}, "", regs{0: 0x40000000}, "nzC"},
		{"lsrs r0, r1", regs{0: a, 1: 31}, "", regs{0: 1}, "nzc"},
		{"lsrs r0, r1", regs{0: a, 1: 32}, "", regs{0: 0}, "nZC"},
		{"lsrs r0, r1", regs{0: b, 1: 32}, "", regs{0: 0}, "nZc"},
		{"lsrs r0, r1", regs{0: a, 1: 33}, "", regs{0: 0}, "nZc"},
		{"lsrs r0, r1", regs{0: 0xffffffff, 1: 255}, "", regs{0: 0}, "nZc"},
		{"lsrs r0, r1", regs{0: b, 1: 256}, "", nil, "nz"},
		{"lsrs r0, r1", regs{0: b, 1: 0x101}, "", regs{0: 0x3fffffff}, "nzc"},
		{"asrs r0, r1", regs{0: a, 1: 0}, "", nil, "Nz"},
		{"asrs r0, r1", regs{0: a, 1: 1}, "", regs{0: 0xc0000000}, "NzC"},
		{"asrs r0, r1", regs{0: a, 1: 31}, "", regs{0: 0xffffffff}, "Nzc"},
		{"asrs r0, r1", regs{0: b, 1: 31}, "", regs{0: 0}, "nZC"},
		{"asrs r0, r1", regs{0: a, 1: 32}, "", regs{0: 0xffffffff}, "NzC"},
		{"asrs r0, r1", regs{0: b, 1: 32}, "", regs{0: 0}, "nZc"},
		{"asrs r0, r1", regs{0: a, 1: 33}, "", regs{0: 0xffffffff}, "NzC"},
		{"asrs r0, r1", regs{0: b, 1: 33}, "", regs{0: 0}, "nZc"},
		{"asrs r0, r1", regs{0: a, 1: 255}, "", regs{0: 0xffffffff}, "NzC"},
		{"asrs r0, r1", regs{0: a, 1: 256}, "", nil, "Nz"},
		{"rors r0, r1", regs{0: b, 1: 0}, "", nil, "nz"},
		{"rors r0, r1", regs{0: a, 1: 1}, "", regs{0: 0xc0000000}, "NzC"},
		{"rors r0, r1", regs{0: b, 1: 1}, "", regs{0: 0x3fffffff}, "nzc"},
		{"rors r0, r1", regs{0: a, 1: 31}, "", regs{0: 3}, "nzc"},
		{"rors r0, r1", regs{0: a, 1: 32}, "", nil, "NzC"},
		{"rors r0, r1", regs{0: b, 1: 32}, "", nil, "nzc"},
		{"rors r0, r1", regs{0: a, 1: 33}, "", regs{0: 0xc0000000}, "NzC"},
		{"rors r0, r1", regs{0: a, 1: 255}, "", regs{0: 3}, "nzc"},
		{"rors r0, r1", regs{0: b, 1: 256}, "", nil, "nz"},
		{"rors r0, r1", regs{0: 0, 1: 5}, "", nil, "nZc"},
		{"lsls r1, r1", regs{1: 1}, "", regs{1: 2}, "nzc"},
		{"rors r2, r2", regs{2: 4}, "", regs{2: 0x40000000}, "nzc"},
	})
}

// loaded is a memory of words 0x11111111, 0x22222222, 0x33333333, a tape of two words, and that instruction at pc.
func loaded(t *testing.T, line string, pc uint32) *mem.Mem {
	t.Helper()
	code := []uint16{0x1111, 0x2222, 0x3333, 0x4444, 0x5555, 0x6666, 0x7777, 0x8888, 0x9999}
	code[pc/2] = halfword(t, line)
	m := mem.New(code, 3, []uint32{0x80000007, 0})
	for k := range 3 {
		m.Set(k, 0x11111111*uint32(k+1))
	}
	return m
}

// P6.2: loads, of memory, of code and of the port; sums of addresses are modulo 2^32; no flags are turned.
func TestLoads(t *testing.T) {
	for _, x := range []struct {
		line  string
		pc    uint32
		has   regs
		to    int
		want  uint32
		drawn int
	}{
		{"ldr r0, [r1, #0]", 16, regs{1: sram}, 0, 0x11111111, 0},
		{"ldr r0, [r1, #4]", 16, regs{1: sram}, 0, 0x22222222, 0},
		{"ldr r0, [r1, #124]", 16, regs{1: sram - 116}, 0, 0x33333333, 0},
		{"ldr r1, [r1, #8]", 16, regs{1: sram}, 1, 0x33333333, 0},
		{"ldr r7, [r1, #0]", 16, regs{1: 0}, 7, 0x22221111, 0},
		{"ldr r7, [r1, #12]", 16, regs{1: 0}, 7, 0x88887777, 0},
		{"ldr r0, [r1, #4]", 16, regs{1: 0xfffffffc}, 0, 0x22221111, 0},
		{"ldr r0, [r1, #124]", 16, regs{1: 0xffffff88}, 0, 0x44443333, 0},
		{"ldr r0, [r1, #0]", 16, regs{1: port}, 0, 0x80000007, 1},
		{"ldr r0, [r1, #124]", 16, regs{1: port - 124}, 0, 0x80000007, 1},
		{"ldr r0, [r1, r2]", 16, regs{1: sram, 2: 8}, 0, 0x33333333, 0},
		{"ldr r0, [r1, r2]", 16, regs{1: 4, 2: sram}, 0, 0x22222222, 0},
		{"ldr r0, [r1, r2]", 16, regs{1: sram + 8, 2: 0xfffffff8}, 0, 0x11111111, 0},
		{"ldr r0, [r1, r2]", 16, regs{1: 0xffffffff, 2: 5}, 0, 0x44443333, 0},
		{"ldr r0, [r1, r2]", 16, regs{1: sram + 1, 2: 3}, 0, 0x22222222, 0},
		{"ldr r2, [r1, r2]", 16, regs{1: sram, 2: sram}, 2, 0x80000007, 1},
		{"ldr r1, [r1, r1]", 16, regs{1: sram}, 1, 0x80000007, 1},
		{"ldr r0, [r1, r1]", 16, regs{1: 0x80000002}, 0, 0x44443333, 0},
		{"ldr r3, [pc, #0]", 0, nil, 3, 0x44443333, 0},
		{"ldr r3, [pc, #0]", 2, nil, 3, 0x44443333, 0},
		{"ldr r3, [pc, #0]", 4, nil, 3, 0x66665555, 0},
		{"ldr r3, [pc, #0]", 6, nil, 3, 0x66665555, 0},
		{"ldr r3, [pc, #8]", 0, nil, 3, 0x88887777, 0},
		{"ldr r3, [pc, #8]", 2, nil, 3, 0x88887777, 0},
		{"ldr r3, [pc, #4]", 6, nil, 3, 0x88887777, 0},
	} {
		for _, s := range allFlags(filled(x.pc, x.has)) {
			m := loaded(t, x.line, x.pc)
			want := s
			want.PC = x.pc + 2
			want.R[x.to] = x.want
			goes(t, x.line, s, m, want)
			has(t, x.line, m, x.want, x.drawn, 0x11111111, 0x22222222, 0x33333333)
		}
	}
}

// P6.2: a word far behind PC, and the last whole one of the code; beyond it a fault.
func TestLoadsFarBehind(t *testing.T) {
	ldr := halfword(t, "ldr r3, [pc, #1020]")
	code := make([]uint16, 700)
	for k := range code {
		code[k] = uint16(k)
	}
	code[0], code[1], code[186], code[188] = ldr, ldr, ldr, ldr
	m := mem.New(code, 0, nil)
	for pc, low := range map[uint32]uint32{0: 512, 2: 512, 372: 698} {
		goes(t, "ldr r3, [pc, #1020]", filled(pc, nil), m, filled(pc+2, regs{3: low + (low+1)<<16}))
	}
	refuses(t, "ldr r3, [pc, #1020]", filled(376, nil), m, api.ErrFault)
}

// P6.2: each load at the port draws one word, until there is none any more.
func TestLoadsOfTheTape(t *testing.T) {
	m := loaded(t, "ldr r0, [r1, #0]", 16)
	s := filled(16, regs{1: port})
	for k, w := range []uint32{0x80000007, 0} {
		goes(t, "the port", s, m, filled(18, regs{0: w, 1: port}))
		has(t, "the port", m, w, k+1, 0x11111111, 0x22222222, 0x33333333)
	}
	refuses(t, "the port", s, m, api.ErrTape)
}

// P6.2: stores, at sums of addresses modulo 2^32; no flags are turned, and of registers none is set.
func TestStores(t *testing.T) {
	for _, x := range []struct {
		line string
		has  regs
		at   int
		w    uint32
	}{
		{"str r0, [r1, #0]", regs{0: 7, 1: sram}, 0, 7},
		{"str r0, [r1, #8]", regs{0: 0, 1: sram}, 2, 0},
		{"str r7, [r1, #124]", regs{7: 0xffffffff, 1: sram - 120}, 1, 0xffffffff},
		{"str r1, [r1, #4]", regs{1: sram}, 1, sram},
		{"str r0, [r1, r2]", regs{0: 7, 1: sram, 2: 4}, 1, 7},
		{"str r0, [r1, r2]", regs{0: 7, 1: 8, 2: sram}, 2, 7},
		{"str r0, [r1, r2]", regs{0: 7, 1: 0xfffffffc, 2: sram + 4}, 0, 7},
		{"str r0, [r1, r2]", regs{0: 7, 1: sram + 9, 2: 0xffffffff}, 2, 7},
		{"str r2, [r1, r2]", regs{1: sram, 2: 4}, 1, 4},
		{"str r0, [r1, r1]", regs{0: 7, 1: 0x90000000}, 0, 7},
		{"str r1, [r1, r1]", regs{1: 0x10000004}, 2, 0x10000004},
	} {
		for _, s := range allFlags(filled(16, x.has)) {
			m := loaded(t, x.line, 16)
			want := s
			want.PC = 18
			words := m.Words()
			words[x.at] = x.w
			goes(t, x.line, s, m, want)
			has(t, x.line, m, x.w, 0, words...)
		}
	}
}

// P6.2: branches on, back, and below 0: nothing but PC changes.
func TestBranches(t *testing.T) {
	for _, x := range []struct {
		line     string
		from, to uint32
	}{
		{"b #0", 0, 4}, {"b #0", 2, 6}, {"b #-4", 8, 8}, {"b #-2", 8, 10}, {"b #2046", 6, 2056}, {"b #-2048", 3000, 956},
		{"b #-6", 2, 0}, {"b #-6", 0, 0xfffffffe}, {"b #-2048", 0, 0xfffff804}, {"b #-2048", 2042, 0xfffffffe}, {"b #-2048", 2044, 0},
	} {
		for _, s := range allFlags(filled(x.from, nil)) {
			m := mem.New(holding(2000, x.from, halfword(t, x.line)), 1, []uint32{9})
			want := s
			want.PC = x.to
			goes(t, x.line, s, m, want)
			has(t, x.line, m, 0, 0, 0)
		}
	}
}

// conditions is, for each one, whether it holds with each of the sixteen that flags can be, in the order of allFlags.
func conditions() []string {
	return []string{
		"0000111100001111", "1111000011110000", "0011001100110011", "1100110011001100",
		"0000000011111111", "1111111100000000", "0101010101010101", "1010101010101010",
		"0011000000110000", "1100111111001111", "1010101001010101", "0101010110101010",
		"1010000001010000", "0101111110101111",
	}
}

// P6.3: each condition over all flags, whatever else is in the state.
func TestHolds(t *testing.T) {
	for cond, want := range conditions() {
		for _, base := range []api.State{{}, filled(6, nil)} {
			for k, s := range allFlags(base) {
				if core.Holds(cond, s) != (want[k] == '1') {
					t.Errorf("Holds(%d, %+v) = %v", cond, s, want[k] != '1')
				}
			}
		}
	}
	for _, cond := range []int{math.MinInt, -14, -2, -1, 14, 15, 16, 17, 30, 256, 1 << 32, math.MaxInt} {
		for _, s := range allFlags(filled(6, nil)) {
			if core.Holds(cond, s) {
				t.Errorf("Holds(%d, %+v)", cond, s)
			}
		}
	}
}

// P6.2: a branch of each condition, on and back, goes where the condition holds; else the next instruction follows.
func TestBranchesOfConditions(t *testing.T) {
	for cond, holds := range conditions() {
		for imm, to := range map[int]uint32{-128: 408 - 256, -3: 402, -2: 404, -1: 406, 0: 408, 1: 410, 127: 408 + 254} {
			h, e := thumb.Put(api.Ins{Op: api.Bc, D: cond, Imm: imm})
			if e != api.OK {
				t.Fatal(cond, imm, e)
			}
			m := mem.New(holding(300, 404, h), 1, []uint32{9})
			for k, s := range allFlags(filled(404, nil)) {
				want := s
				want.PC = 406
				if holds[k] == '1' {
					want.PC = to
				}
				goes(t, "a branch of condition "+string(rune('a'+cond)), s, m, want)
			}
		}
	}
	goes(t, "beq below 0", flagged(filled(2, nil), "Z"), mem.New(holding(2, 2, halfword(t, "beq #-256")), 0, nil), flagged(filled(0xffffff06, nil), "Z"))
}

// P6.2: Nop goes on alone; Bkpt stops where it is, and so again.
func TestNopAndBkpt(t *testing.T) {
	for _, pc := range []uint32{0, 2, 4} {
		for _, s := range allFlags(filled(pc, nil)) {
			m := mem.New(holding(3, pc, halfword(t, "nop")), 1, []uint32{9})
			want := s
			want.PC = pc + 2
			goes(t, "nop", s, m, want)
			has(t, "nop", m, 0, 0, 0)
			for _, line := range []string{"bkpt #0", "bkpt #1", "bkpt #255"} {
				m := mem.New(holding(3, pc, halfword(t, line)), 1, []uint32{9})
				for range 2 {
					if got, stopped, e := core.Step(s, m); got != s || !stopped || e != api.OK {
						t.Errorf("%s: Step(%+v)\n = %+v, %v, %v", line, s, got, stopped, e)
					}
					has(t, line, m, 0, 0, 0)
				}
			}
		}
	}
}

// P6.1 to P6.3: a few instructions in a row: 5 + 4 + 3 + 2 + 1, stored.
func TestProgram(t *testing.T) {
	code, _, e := text.Program("movs r0, #5\nmovs r1, #0\nadds r1, r1, r0\nsubs r0, #1\nbne #-8\nldr r2, [pc, #4]\nstr r1, [r2, #4]\nbkpt #0\n")
	if e != api.OK {
		t.Fatal(e)
	}
	m := mem.New(append(code, 0, 0x2000), 2, nil)
	s, steps, stopped := api.State{}, 0, false
	for !stopped && e == api.OK && steps < 100 {
		s, stopped, e = core.Step(s, m)
		steps++
	}
	want := flagged(api.State{PC: 14, R: [8]uint32{1: 15, 2: sram}}, "ZC")
	if s != want || !stopped || e != api.OK || steps != 2+3*5+3 {
		t.Errorf("%+v, %v, %d steps", s, e, steps)
	}
	has(t, "the program", m, 15, 0, 0, 15)
}
