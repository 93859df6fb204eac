package leak_test

import (
	"math"
	"slices"
	"strings"
	"testing"

	"bauta/api"
	"bauta/core"
	"bauta/leak"
	"bauta/mem"
	"bauta/text"
	"bauta/thumb"
)

// Where things lie, as the document writes it; none is a halfword that is no instruction; laid is a word that nothing else has.
const (
	sram = uint32(0x20000000)
	port = uint32(0x40000000)
	none = uint16(0xb500)
	laid = uint32(0xb5b5b5b5)
)

// The words that registers have, unless a test says otherwise: they all differ.
const (
	r0 = uint32(0x80a0c001)
	r1 = uint32(0x81a1c102)
	r2 = uint32(0x82a2c203)
	r3 = uint32(0x83a3c304)
	r4 = uint32(0x84a4c405)
	r5 = uint32(0x85a5c506)
	r6 = uint32(0x86a6c607)
	r7 = uint32(0x87a7c708)
)

// regs is the words of some registers.
type regs map[int]uint32

// filled is a state at pc with the words above, but for those of l.
func filled(pc uint32, l regs) api.State {
	s := api.State{PC: pc, R: [8]uint32{r0, r1, r2, r3, r4, r5, r6, r7}}
	for k, w := range l {
		s.R[k] = w
	}
	return s
}

// flagged is s with flags as letters say: a great one is set, a small one is not, one that is not there stays.
func flagged(s api.State, letters string) api.State {
	for k := range len(letters) {
		set := letters[k] < 'a'
		switch strings.ToUpper(letters)[k] {
		case 'N':
			s.N = set
		case 'Z':
			s.Z = set
		case 'C':
			s.C = set
		case 'V':
			s.V = set
		}
	}
	return s
}

// allFlags is s with each of the sixteen that flags can be.
func allFlags(s api.State) []api.State {
	l := []api.State{}
	for k := range 16 {
		s.N, s.Z, s.C, s.V = k&8 != 0, k&4 != 0, k&2 != 0, k&1 != 0
		l = append(l, s)
	}
	return l
}

// halfword is the halfword of an instruction's text.
func halfword(t *testing.T, line string) uint16 {
	t.Helper()
	i, e := text.Parse(line)
	if e != api.OK {
		t.Fatalf("Parse(%q): %v", line, e)
	}
	h, _ := thumb.Put(i)
	return h
}

// holding makes memory, each time the same: eight halfwords of which h is the one at pc, three words, a tape of two, and a word on the bus that was stored.
func holding(pc uint32, h uint16) func() *mem.Mem {
	return func() *mem.Mem {
		code := []uint16{0x3333, 0x4444, 0x5555, 0x6666, 0x7777, 0x8888, 0x9999, 0xaaaa}
		code[pc/2] = h
		m := mem.New(code, 3, []uint32{0x80000007, 0xeeeeeeee})
		m.Store(sram, laid)
		for k, w := range []uint32{0x11111111, 0x22222222, 0xcccccccc} {
			m.Set(k, w)
		}
		return m
	}
}

// alike tells whether two memories show the same.
func alike(a, b *mem.Mem) bool {
	return a.Bus() == b.Bus() && a.Drawn() == b.Drawn() && slices.Equal(a.Words(), b.Words())
}

// asCore looks that a Step on m does what core.Step does on its twin, whatever comes of it, and answers what was leaked, whether it has stopped, and the error.
func asCore(t *testing.T, what string, s api.State, m, twin *mem.Mem) (api.State, api.Leak, bool, api.Errno) {
	t.Helper()
	got, l, stopped, e := leak.Step(s, m)
	want, stops, err := core.Step(s, twin)
	if got != want || stopped != stops || e != err {
		t.Errorf("%s: Step(%+v)\n = %+v, %v, %v\nnot %+v, %v, %v", what, s, got, stopped, e, want, stops, err)
	}
	if m != nil && !alike(m, twin) {
		t.Errorf("%s: Step(%+v): Bus %#x, Drawn %d, Words %x\nnot %#x, %d, %x", what, s, m.Bus(), m.Drawn(), m.Words(), twin.Bus(), twin.Drawn(), twin.Words())
	}
	return got, l, stopped, e
}

// leaks looks that a Step leaks just that.
func leaks(t *testing.T, what string, s api.State, made func() *mem.Mem, want api.Leak) {
	t.Helper()
	if _, l, _, e := asCore(t, what, s, made(), made()); l != want || e != api.OK {
		t.Errorf("%s: Step(%+v) leaks\n %+v, %v\nnot %+v", what, s, l, e, want)
	}
}

// refuses looks that a Step answers s, the zero leak, false and the error.
func refuses(t *testing.T, what string, s api.State, m, twin *mem.Mem, err api.Errno) {
	t.Helper()
	got, l, stopped, e := asCore(t, what, s, m, twin)
	if got != s || l != (api.Leak{}) || stopped || e != err {
		t.Errorf("%s: Step(%+v)\n = %+v, %+v, %v, %v\nnot %v", what, s, got, l, stopped, e, err)
	}
}

// row is an instruction, registers and flags ahead of it, and what it leaks beside PC, Code and Bus.
type row struct {
	line  string
	has   regs
	ahead string
	want  api.Leak
}

// rows looks at each: at a PC that is a multiple of 4 and at one that is not, with all flags ahead that its own leave open.
func rows(t *testing.T, l []row) {
	t.Helper()
	for _, x := range l {
		h := halfword(t, x.line)
		for _, pc := range []uint32{4, 6} {
			want := x.want
			want.PC, want.Code, want.Bus = pc, h, laid
			for _, s := range allFlags(filled(pc, x.has)) {
				leaks(t, x.line, flagged(s, x.ahead), holding(pc, h), want)
			}
		}
	}
}

// P7.1: without memory nothing is leaked, and the answer is core.Step's.
func TestStepOfNoMemory(t *testing.T) {
	for _, pc := range []uint32{0, 1, 2, sram, port, math.MaxUint32} {
		for _, s := range allFlags(filled(pc, nil)) {
			refuses(t, "nil", s, nil, nil, api.ErrArg)
		}
	}
	refuses(t, "nil", api.State{}, nil, nil, api.ErrArg)
}

// P7.1: at an odd PC and beyond the code nothing is leaked.
func TestStepWhereNoCodeIs(t *testing.T) {
	made := holding(4, halfword(t, "movs r1, #5"))
	for _, pc := range []uint32{1, 3, 5, 7, 15, 16, 17, 18, 20, sram, sram + 1, port, math.MaxUint32 - 1, math.MaxUint32} {
		for _, s := range allFlags(filled(pc, nil)) {
			refuses(t, "no code there", s, made(), made(), api.ErrFault)
		}
	}
	refuses(t, "no code", api.State{}, mem.New(nil, 1, nil), mem.New(nil, 1, nil), api.ErrFault)
}

// P7.1: at what is no instruction nothing is leaked.
func TestStepOfNoInstruction(t *testing.T) {
	for h := range 1 << 16 {
		if _, e := thumb.Take(uint16(h)); e != api.OK {
			made := holding(2, uint16(h))
			refuses(t, "no instruction", filled(2, regs{0: sram, 1: sram}), made(), made(), api.ErrUndef)
		}
	}
}

// P7.1: of a load or a store that is an error nothing is leaked, and nothing is drawn or stored.
func TestStepErrors(t *testing.T) {
	for _, x := range []struct {
		line string
		has  regs
		err  api.Errno
	}{
		{"ldr r0, [r1, #0]", regs{1: sram + 12}, api.ErrFault},
		{"ldr r0, [r1, #4]", regs{1: sram + 8}, api.ErrFault},
		{"ldr r0, [r1, #0]", regs{1: sram - 4}, api.ErrFault},
		{"ldr r0, [r1, #0]", regs{1: sram + 2}, api.ErrFault},
		{"ldr r0, [r1, #0]", regs{1: port + 4}, api.ErrFault},
		{"ldr r1, [r1, #0]", regs{1: port}, api.ErrTape},
		{"ldr r0, [r1, r2]", regs{1: sram, 2: 12}, api.ErrFault},
		{"ldr r0, [r1, r2]", regs{1: sram, 2: 1}, api.ErrFault},
		{"ldr r0, [r1, r2]", regs{1: 8, 2: port - 8}, api.ErrTape},
		{"ldr r0, [pc, #12]", nil, api.ErrFault},
		{"ldr r0, [pc, #1020]", nil, api.ErrFault},
		{"str r0, [r1, #0]", regs{1: sram + 12}, api.ErrFault},
		{"str r0, [r1, #4]", regs{1: sram + 8}, api.ErrFault},
		{"str r0, [r1, #0]", regs{1: sram + 1}, api.ErrFault},
		{"str r0, [r1, #0]", regs{1: 0}, api.ErrFault},
		{"str r0, [r1, #0]", regs{1: port}, api.ErrFault},
		{"str r0, [r1, r2]", regs{1: sram, 2: 12}, api.ErrFault},
		{"str r0, [r1, r2]", regs{1: sram, 2: 3}, api.ErrFault},
		{"str r0, [r1, r2]", regs{1: 8, 2: port - 8}, api.ErrFault},
	} {
		made := holding(2, halfword(t, x.line))
		for _, s := range allFlags(filled(2, x.has)) {
			m, twin := made(), made()
			for _, l := range []*mem.Mem{m, twin} {
				l.Load(port)
				l.Load(port)
			}
			refuses(t, x.line, s, m, twin, x.err)
		}
	}
}

// P7.1: a number, and what is done with one.
func TestLeaksOfNumbers(t *testing.T) {
	rows(t, []row{
		{"movs r1, #5", nil, "", api.Leak{B: 5, R: 5, Old: r1}},
		{"movs r7, #255", nil, "", api.Leak{B: 255, R: 255, Old: r7}},
		{"movs r0, #0", nil, "", api.Leak{Old: r0}},
		{"movs r0, #5", regs{0: 7}, "", api.Leak{B: 5, R: 5, Old: 7}},
		{"cmp r2, #9", nil, "", api.Leak{A: r2, B: 9, R: 0x82a2c1fa}},
		{"cmp r5, #255", nil, "", api.Leak{A: r5, B: 255, R: 0x85a5c407}},
		{"cmp r0, #1", regs{0: 0}, "", api.Leak{B: 1, R: 0xffffffff}},
		{"cmp r0, #5", regs{0: 5}, "", api.Leak{A: 5, B: 5}},
		{"cmp r0, #0", nil, "", api.Leak{A: r0, R: r0}},
		{"adds r3, #200", nil, "", api.Leak{A: r3, B: 200, R: 0x83a3c3cc, Old: r3}},
		{"adds r3, #1", regs{3: 0xffffffff}, "", api.Leak{A: 0xffffffff, B: 1, Old: 0xffffffff}},
		{"subs r4, #6", nil, "", api.Leak{A: r4, B: 6, R: 0x84a4c3ff, Old: r4}},
		{"subs r4, #1", regs{4: 0}, "", api.Leak{B: 1, R: 0xffffffff}},
		{"adds r5, r6, #7", nil, "", api.Leak{A: r6, B: 7, R: 0x86a6c60e, Old: r5}},
		{"adds r6, r6, #1", nil, "", api.Leak{A: r6, B: 1, R: 0x86a6c608, Old: r6}},
		{"subs r5, r6, #7", nil, "", api.Leak{A: r6, B: 7, R: 0x86a6c600, Old: r5}},
		{"subs r5, r6, #0", nil, "", api.Leak{A: r6, R: r6, Old: r5}},
		{"lsls r1, r2, #4", nil, "", api.Leak{A: r2, B: 4, R: 0x2a2c2030, Old: r1}},
		{"lsls r1, r2, #0", nil, "", api.Leak{A: r2, R: r2, Old: r1}},
		{"lsls r2, r2, #31", nil, "", api.Leak{A: r2, B: 31, R: 0x80000000, Old: r2}},
		{"lsrs r1, r2, #8", nil, "", api.Leak{A: r2, B: 8, R: 0x0082a2c2, Old: r1}},
		{"lsrs r1, r2, #32", nil, "", api.Leak{A: r2, B: 32, Old: r1}},
		{"asrs r1, r2, #4", nil, "", api.Leak{A: r2, B: 4, R: 0xf82a2c20, Old: r1}},
		{"asrs r1, r2, #32", nil, "", api.Leak{A: r2, B: 32, R: 0xffffffff, Old: r1}},
	})
}

// P7.1: what is done with two registers; those that set none have what comes of it, and nothing of old.
func TestLeaksOfRegisters(t *testing.T) {
	rows(t, []row{
		{"adds r0, r1, r2", nil, "", api.Leak{A: r1, B: r2, R: 0x04448305, Old: r0}},
		{"adds r1, r1, r1", nil, "", api.Leak{A: r1, B: r1, R: 0x03438204, Old: r1}},
		{"subs r0, r1, r2", nil, "", api.Leak{A: r1, B: r2, R: 0xfefefeff, Old: r0}},
		{"subs r2, r2, r1", nil, "", api.Leak{A: r2, B: r1, R: 0x01010101, Old: r2}},
		{"ands r1, r2", nil, "", api.Leak{A: r1, B: r2, R: 0x80a0c002, Old: r1}},
		{"eors r1, r2", nil, "", api.Leak{A: r1, B: r2, R: 0x03030301, Old: r1}},
		{"eors r3, r3", nil, "", api.Leak{A: r3, B: r3, Old: r3}},
		{"lsls r1, r2", nil, "", api.Leak{A: r1, B: r2, R: 0x0d0e0810, Old: r1}},
		{"lsls r1, r2", regs{2: 0x100}, "", api.Leak{A: r1, B: 0x100, R: r1, Old: r1}},
		{"lsrs r1, r2", nil, "", api.Leak{A: r1, B: r2, R: 0x10343820, Old: r1}},
		{"asrs r1, r2", nil, "", api.Leak{A: r1, B: r2, R: 0xf0343820, Old: r1}},
		{"adcs r1, r2", nil, "c", api.Leak{A: r1, B: r2, R: 0x04448305, Old: r1}},
		{"adcs r1, r2", nil, "C", api.Leak{A: r1, B: r2, R: 0x04448306, Old: r1}},
		{"sbcs r1, r2", nil, "c", api.Leak{A: r1, B: r2, R: 0xfefefefe, Old: r1}},
		{"sbcs r1, r2", nil, "C", api.Leak{A: r1, B: r2, R: 0xfefefeff, Old: r1}},
		{"rors r1, r2", nil, "", api.Leak{A: r1, B: r2, R: 0x50343820, Old: r1}},
		{"tst r1, r2", nil, "", api.Leak{A: r1, B: r2, R: 0x80a0c002}},
		{"tst r1, r2", regs{1: 12, 2: 3}, "", api.Leak{A: 12, B: 3}},
		{"rsbs r1, r2", nil, "", api.Leak{A: r1, B: r2, R: 0x7d5d3dfd, Old: r1}},
		{"rsbs r1, r1", nil, "", api.Leak{A: r1, B: r1, R: 0x7e5e3efe, Old: r1}},
		{"cmp r1, r2", nil, "", api.Leak{A: r1, B: r2, R: 0xfefefeff}},
		{"cmp r2, r1", nil, "", api.Leak{A: r2, B: r1, R: 0x01010101}},
		{"cmp r4, r4", nil, "", api.Leak{A: r4, B: r4}},
		{"cmn r1, r2", nil, "", api.Leak{A: r1, B: r2, R: 0x04448305}},
		{"cmn r1, r2", regs{1: 1, 2: 0xffffffff}, "", api.Leak{A: 1, B: 0xffffffff}},
		{"orrs r1, r2", nil, "", api.Leak{A: r1, B: r2, R: 0x83a3c303, Old: r1}},
		{"muls r1, r2", nil, "", api.Leak{A: r1, B: r2, R: 0x406cc706, Old: r1}},
		{"bics r1, r2", nil, "", api.Leak{A: r1, B: r2, R: 0x01010100, Old: r1}},
		{"mvns r1, r2", nil, "", api.Leak{A: r1, B: r2, R: 0x7d5d3dfc, Old: r1}},
	})
}

// P7.1: loads have what they are addressed by, the word, and where it was; at the port it is random; what lies behind is addressed by no register.
func TestLeaksOfLoads(t *testing.T) {
	rows(t, []row{
		{"ldr r0, [r1, #4]", regs{1: sram}, "", api.Leak{A: sram, B: 4, R: 0x22222222, Old: r0, Addr: sram + 4, Memory: true}},
		{"ldr r0, [r1, #0]", regs{1: sram}, "", api.Leak{A: sram, R: 0x11111111, Old: r0, Addr: sram, Memory: true}},
		{"ldr r7, [r6, #124]", regs{6: sram - 116}, "", api.Leak{A: sram - 116, B: 124, R: 0xcccccccc, Old: r7, Addr: sram + 8, Memory: true}},
		{"ldr r1, [r1, #4]", regs{1: sram}, "", api.Leak{A: sram, B: 4, R: 0x22222222, Old: sram, Addr: sram + 4, Memory: true}},
		{"ldr r0, [r1, #0]", regs{1: 0}, "", api.Leak{R: 0x44443333, Old: r0, Memory: true}},
		{"ldr r0, [r1, #4]", regs{1: 0xfffffffc}, "", api.Leak{A: 0xfffffffc, B: 4, R: 0x44443333, Old: r0, Memory: true}},
		{"ldr r0, [r1, #8]", regs{1: 4}, "", api.Leak{A: 4, B: 8, R: 0xaaaa9999, Old: r0, Addr: 12, Memory: true}},
		{"ldr r0, [r1, #0]", regs{1: port}, "", api.Leak{A: port, R: 0x80000007, Old: r0, Addr: port, Memory: true, Random: true}},
		{"ldr r1, [r1, #124]", regs{1: port - 124}, "", api.Leak{A: port - 124, B: 124, R: 0x80000007, Old: port - 124, Addr: port, Memory: true, Random: true}},
		{"ldr r0, [r1, r2]", regs{1: sram, 2: 8}, "", api.Leak{A: sram, B: 8, R: 0xcccccccc, Old: r0, Addr: sram + 8, Memory: true}},
		{"ldr r0, [r1, r2]", regs{1: 8, 2: sram}, "", api.Leak{A: 8, B: sram, R: 0xcccccccc, Old: r0, Addr: sram + 8, Memory: true}},
		{"ldr r2, [r1, r2]", regs{1: sram + 9, 2: 0xffffffff}, "", api.Leak{A: sram + 9, B: 0xffffffff, R: 0xcccccccc, Old: 0xffffffff, Addr: sram + 8, Memory: true}},
		{"ldr r0, [r1, r1]", regs{1: 0x10000000}, "", api.Leak{A: 0x10000000, B: 0x10000000, R: 0x11111111, Old: r0, Addr: sram, Memory: true}},
		{"ldr r0, [r1, r1]", regs{1: sram}, "", api.Leak{A: sram, B: sram, R: 0x80000007, Old: r0, Addr: port, Memory: true, Random: true}},
		{"ldr r0, [r1, r2]", regs{1: port + 4, 2: 0xfffffffc}, "", api.Leak{A: port + 4, B: 0xfffffffc, R: 0x80000007, Old: r0, Addr: port, Memory: true, Random: true}},
		{"ldr r3, [pc, #0]", nil, "", api.Leak{R: 0x88887777, Old: r3, Addr: 8, Memory: true}},
		{"ldr r3, [pc, #4]", nil, "", api.Leak{R: 0xaaaa9999, Old: r3, Addr: 12, Memory: true}},
	})
}

// P7.1: a word far behind PC, whose address is counted from a multiple of 4.
func TestLeaksOfLoadsFarBehind(t *testing.T) {
	ldr := halfword(t, "ldr r3, [pc, #1020]")
	made := func() *mem.Mem {
		code := make([]uint16, 600)
		for k := range code {
			code[k] = uint16(k)
		}
		code[0], code[1], code[2], code[51] = ldr, ldr, ldr, ldr
		return mem.New(code, 0, nil)
	}
	for pc, addr := range map[uint32]uint32{0: 1024, 2: 1024, 4: 1028, 102: 1124} {
		low := addr / 2
		leaks(t, "ldr r3, [pc, #1020]", filled(pc, nil), made, api.Leak{PC: pc, Code: ldr, R: low + (low+1)<<16, Old: r3, Addr: addr, Memory: true})
	}
}

// P7.1: stores have the word that is stored, twice, and nothing of old, neither of a register nor of memory.
func TestLeaksOfStores(t *testing.T) {
	rows(t, []row{
		{"str r0, [r1, #8]", regs{1: sram}, "", api.Leak{A: r0, R: r0, Addr: sram + 8, Memory: true}},
		{"str r0, [r1, #0]", regs{0: 0, 1: sram}, "", api.Leak{Addr: sram, Memory: true}},
		{"str r7, [r1, #124]", regs{1: sram - 120}, "", api.Leak{A: r7, R: r7, Addr: sram + 4, Memory: true}},
		{"str r1, [r1, #4]", regs{1: sram}, "", api.Leak{A: sram, R: sram, Addr: sram + 4, Memory: true}},
		{"str r0, [r1, r2]", regs{1: sram, 2: 4}, "", api.Leak{A: r0, R: r0, Addr: sram + 4, Memory: true}},
		{"str r5, [r1, r2]", regs{1: 0xfffffff8, 2: sram + 16}, "", api.Leak{A: r5, R: r5, Addr: sram + 8, Memory: true}},
		{"str r2, [r1, r2]", regs{1: sram, 2: 8}, "", api.Leak{A: 8, R: 8, Addr: sram + 8, Memory: true}},
		{"str r0, [r1, r1]", regs{1: 0x90000000}, "", api.Leak{A: r0, R: r0, Addr: sram, Memory: true}},
	})
}

// P7.1: what takes no register and sets none leaks where it is, its halfword, and the bus; a branch so whether or not it goes elsewhere, and what stops, too.
func TestLeaksOfTheRest(t *testing.T) {
	l := []row{}
	for _, line := range []string{
		"b #0", "b #-4", "b #2046", "b #-2048", "beq #6", "bne #6", "bcs #-256", "bcc #254", "bmi #0", "bpl #-2",
		"bvs #2", "bvc #4", "bhi #8", "bls #10", "bge #-8", "blt #-10", "bgt #12", "ble #-12", "nop", "bkpt #0", "bkpt #1", "bkpt #255",
	} {
		l = append(l, row{line, nil, "", api.Leak{}})
	}
	rows(t, l)
	for _, line := range []string{"bkpt #0", "bkpt #255"} {
		m, twin := holding(6, halfword(t, line))(), holding(6, halfword(t, line))()
		for range 2 {
			s := filled(6, nil)
			got, l, stopped, e := asCore(t, line, s, m, twin)
			if got != s || l != (api.Leak{PC: 6, Code: halfword(t, line), Bus: laid}) || !stopped || e != api.OK {
				t.Errorf("%s: Step(%+v)\n = %+v, %+v, %v, %v", line, s, got, l, stopped, e)
			}
		}
	}
}

// P7.1: PC and Code are those of the instruction that is done, at the first halfword that there can be and at the last one, with others around it.
func TestLeaksWhere(t *testing.T) {
	made := func() *mem.Mem {
		code := slices.Repeat([]uint16{none}, 60000)
		for _, pc := range []uint32{0, 2, 4, 60000, 119998} {
			code[pc/2] = 0x2100 + uint16(pc%251)
		}
		return mem.New(code, 0, nil)
	}
	for _, pc := range []uint32{0, 2, 4, 60000, 119998} {
		leaks(t, "movs", filled(pc, nil), made, api.Leak{PC: pc, Code: 0x2100 + uint16(pc%251), B: pc % 251, R: pc % 251, Old: r1})
	}
}

// script is instructions in a row, and what each leaks beside PC and Code.
type script []struct {
	line string
	want api.Leak
}

// follow looks at each instruction of a script, from s on, each at the next PC.
func follow(t *testing.T, s api.State, l script, words int, tape []uint32) {
	t.Helper()
	code := []uint16{}
	for _, x := range l {
		code = append(code, halfword(t, x.line))
	}
	m, twin := mem.New(code, words, tape), mem.New(code, words, tape)
	for k, x := range l {
		want := x.want
		want.PC, want.Code = uint32(2*k), code[k]
		next, got, _, e := asCore(t, x.line, s, m, twin)
		if got != want || e != api.OK {
			t.Errorf("%d: %s leaks\n %+v, %v\nnot %+v", k, x.line, got, e, want)
		}
		s = next
	}
}

// P7.1: Bus is the word that was loaded or stored last ahead of the instruction: 0 at first, and it stays behind what neither loads nor stores.
func TestBus(t *testing.T) {
	follow(t, filled(0, regs{1: sram, 2: port, 4: 4}), script{
		{"movs r0, #9", api.Leak{B: 9, R: 9, Old: r0}},
		{"str r0, [r1, #0]", api.Leak{A: 9, R: 9, Addr: sram, Memory: true}},
		{"movs r0, #3", api.Leak{B: 3, R: 3, Old: 9, Bus: 9}},
		{"ldr r3, [r2, #0]", api.Leak{A: port, R: 0xdddddddd, Old: r3, Bus: 9, Addr: port, Memory: true, Random: true}},
		{"nop", api.Leak{Bus: 0xdddddddd}},
		{"cmp r0, r3", api.Leak{A: 3, B: 0xdddddddd, R: 0x22222226, Bus: 0xdddddddd}},
		{"str r0, [r1, r4]", api.Leak{A: 3, R: 3, Bus: 0xdddddddd, Addr: sram + 4, Memory: true}},
		{"ldr r5, [r1, #0]", api.Leak{A: sram, R: 9, Old: r5, Bus: 3, Addr: sram, Memory: true}},
		{"ldr r3, [r2, #0]", api.Leak{A: port, R: 0x77777777, Old: 0xdddddddd, Bus: 9, Addr: port, Memory: true, Random: true}},
		{"ldr r3, [r1, r4]", api.Leak{A: sram, B: 4, R: 3, Old: 0x77777777, Bus: 0x77777777, Addr: sram + 4, Memory: true}},
		{"str r6, [r1, #0]", api.Leak{A: r6, R: r6, Bus: 3, Addr: sram, Memory: true}},
		{"b #-2", api.Leak{Bus: r6}},
		{"bkpt #0", api.Leak{Bus: r6}},
	}, 2, []uint32{0xdddddddd, 0x77777777})
}

// P7.1: a word that was set past the bus is not on it; a fault leaves there what was.
func TestBusStays(t *testing.T) {
	made := func() *mem.Mem {
		m := mem.New([]uint16{halfword(t, "ldr r0, [r1, #0]")}, 2, nil)
		m.Set(0, 5)
		m.Set(1, 6)
		return m
	}
	m, twin := made(), made()
	refuses(t, "a fault", filled(0, regs{1: sram + 8}), m, twin, api.ErrFault)
	for k, bus := range []uint32{0, 5, 6, 6} {
		at := []uint32{sram, sram + 4, sram + 4, sram}[k]
		w := []uint32{5, 6, 6, 5}[k]
		_, l, _, _ := asCore(t, "a load", filled(0, regs{1: at}), m, twin)
		if want := (api.Leak{Code: 0x6808, A: at, R: w, Old: r0, Bus: bus, Addr: at, Memory: true}); l != want {
			t.Errorf("a load leaks\n %+v\nnot %+v", l, want)
		}
		refuses(t, "a fault", filled(0, regs{1: port}), m, twin, api.ErrTape)
	}
}

// whole is a leak in which each part has something of its own.
func whole() api.Leak {
	return api.Leak{PC: 6, Code: 0x6808, A: 1, B: 2, R: 3, Old: 4, Bus: 5, Addr: port, Memory: true, Random: true}
}

// parts is, for each part of a leak, what makes it another one, and whether it is of the road; the words are in the order of Values.
func parts() []struct {
	name string
	turn func(l *api.Leak)
	road bool
} {
	return []struct {
		name string
		turn func(l *api.Leak)
		road bool
	}{
		{"A", func(l *api.Leak) { l.A ^= 1 << 31 }, false},
		{"B", func(l *api.Leak) { l.B ^= 1 << 31 }, false},
		{"R", func(l *api.Leak) { l.R ^= 1 << 31 }, false},
		{"Old", func(l *api.Leak) { l.Old ^= 1 << 31 }, false},
		{"Bus", func(l *api.Leak) { l.Bus ^= 1 << 31 }, false},
		{"PC", func(l *api.Leak) { l.PC ^= 2 }, true},
		{"PC's highest bit", func(l *api.Leak) { l.PC ^= 1 << 31 }, true},
		{"Code", func(l *api.Leak) { l.Code ^= 1 }, true},
		{"Code's highest bit", func(l *api.Leak) { l.Code ^= 1 << 15 }, true},
		{"Addr", func(l *api.Leak) { l.Addr ^= 4 }, true},
		{"Addr's highest bit", func(l *api.Leak) { l.Addr ^= 1 << 31 }, true},
		{"Memory", func(l *api.Leak) { l.Memory = !l.Memory }, true},
		{"Random", func(l *api.Leak) { l.Random = !l.Random }, true},
	}
}

// P7.2: leaks that differ in one part alone are the same, unless it is of the road; in any words at once they are.
func TestSame(t *testing.T) {
	for _, a := range []api.Leak{{}, whole()} {
		every := a
		if !leak.Same(a, a) {
			t.Errorf("Same(%+v) of itself is false", a)
		}
		for _, x := range parts() {
			b := a
			x.turn(&b)
			if leak.Same(a, b) != !x.road || leak.Same(b, a) != !x.road || !leak.Same(b, b) {
				t.Errorf("Same of %+v\nand %+v, which differs in %s, is %v, %v", a, b, x.name, leak.Same(a, b), leak.Same(b, a))
			}
			if x.road {
				continue
			}
			x.turn(&every)
			if !leak.Same(a, every) || !leak.Same(every, a) {
				t.Errorf("Same of %+v\nand %+v is false", a, every)
			}
		}
	}
	// What differs in two parts, each the other way, is not made up for.
	a, b := whole(), whole()
	a.Memory, a.Random = true, false
	b.Memory, b.Random = false, true
	if leak.Same(a, b) || leak.Same(b, a) {
		t.Errorf("Same of %+v\nand %+v", a, b)
	}
	a, b = whole(), whole()
	a.PC, a.Addr = 4, 8
	b.PC, b.Addr = 8, 4
	if leak.Same(a, b) || leak.Same(b, a) {
		t.Errorf("Same of %+v\nand %+v", a, b)
	}
}

// P7.2: Values is A, B, R, Old and Bus in this order, each by itself, and nothing of the road.
func TestValues(t *testing.T) {
	if got := leak.Values(whole()); got != [5]uint32{1, 2, 3, 4, 5} {
		t.Errorf("Values(%+v) = %v", whole(), got)
	}
	if got := leak.Values(api.Leak{}); got != [5]uint32{} {
		t.Errorf("Values of the zero leak = %v", got)
	}
	for _, a := range []api.Leak{{}, whole()} {
		for k, x := range parts() {
			b, want := a, leak.Values(a)
			x.turn(&b)
			if !x.road {
				want[k] ^= 1 << 31
			}
			if got := leak.Values(b); got != want {
				t.Errorf("Values(%+v) = %v, not %v", b, got, want)
			}
		}
	}
}
