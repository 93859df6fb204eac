package leak_test

import (
	"math/rand"
	"testing"

	"bauta/api"
	"bauta/core"
	"bauta/leak"
	"bauta/mem"
	"bauta/thumb"
)

// anyWord is a word at an edge, a small one, one near where something lies, or any.
func anyWord(r *rand.Rand) uint32 {
	edges := []uint32{0, 1, 2, 31, 32, 33, 255, 256, 0x7fffffff, 0x80000000, 0x80000001, 0xfffffffe, 0xffffffff}
	switch r.Intn(6) {
	case 0:
		return edges[r.Intn(len(edges))]
	case 1:
		return uint32(4 * r.Intn(20))
	case 2, 3:
		return sram + uint32(4*r.Intn(20)) - 32
	case 4:
		return []uint32{port, port - 4, port - 124, 0xfffffffc, 0xffffff84}[r.Intn(5)]
	}
	return r.Uint32()
}

// anyState is a state at pc with any words and any flags.
func anyState(r *rand.Rand, pc uint32) api.State {
	s := allFlags(api.State{PC: pc})[r.Intn(16)]
	for k := range s.R {
		s.R[k] = anyWord(r)
	}
	return s
}

// anyMemory makes memory with that instruction at pc, and any word on the bus; each time it is called the same.
func anyMemory(r *rand.Rand, pc uint32, h uint16) func() *mem.Mem {
	code, words, tape := make([]uint16, 12), make([]uint32, 12), make([]uint32, r.Intn(3))
	for k := range code {
		code[k], words[k] = uint16(r.Uint32()), r.Uint32()
	}
	for k := range tape {
		tape[k] = r.Uint32()
	}
	code[pc/2] = h
	bus := r.Uint32()
	return func() *mem.Mem {
		m := mem.New(code, len(words), tape)
		m.Store(sram, bus)
		for k, w := range words {
			m.Set(k, w)
		}
		return m
	}
}

// setter is an instruction that sets its D to what comes of one that sets flags alone; of another one it is that one itself.
func setter(i api.Ins) api.Ins {
	switch i.Op {
	case api.CmpI:
		return api.Ins{Op: api.SubI, D: i.D, Imm: i.Imm}
	case api.Alu:
		switch i.Imm {
		case api.Tst:
			i.Imm = api.And
		case api.Cmp:
			return api.Ins{Op: api.SubR, D: i.D, N: i.D, M: i.M}
		case api.Cmn:
			return api.Ins{Op: api.AddR, D: i.D, N: i.D, M: i.M}
		}
	}
	return i
}

// cameOf is what comes of an instruction that sets a register or flags, on a machine of its own.
func cameOf(i api.Ins, s api.State) uint32 {
	h, _ := thumb.Put(setter(i))
	s.PC = 0
	next, _, _ := core.Step(s, mem.New([]uint16{h}, 0, nil))
	return next.R[i.D]
}

// plain is what an instruction leaks, as the document writes it, from the memory as it is ahead of it.
func plain(i api.Ins, h uint16, s api.State, m *mem.Mem) api.Leak {
	l := api.Leak{PC: s.PC, Code: h, Bus: m.Bus()}
	d, n, imm := &s.R[i.D&7], s.R[i.N], uint32(i.Imm)
	by := s.R[i.M]
	switch i.Op {
	case api.MovI:
		l.B = imm
	case api.CmpI, api.AddI, api.SubI:
		l.A, l.B = *d, imm
	case api.LslI, api.LsrI, api.AsrI:
		l.A, l.B = by, imm
	case api.AddR, api.SubR, api.LdrR:
		l.A, l.B = n, by
	case api.AddS, api.SubS:
		l.A, l.B = n, imm
	case api.Alu:
		l.A, l.B = *d, by
	case api.LdrI:
		l.A, l.B = n, 4*imm
	case api.StrI, api.StrR:
		l.A = *d
	}
	switch i.Op {
	case api.LdrI, api.StrI:
		l.Addr, l.Memory = uint32((uint64(n)+4*uint64(imm))%(1<<32)), true
	case api.LdrR, api.StrR:
		l.Addr, l.Memory = uint32((uint64(n)+uint64(by))%(1<<32)), true
	case api.LdrL:
		l.Addr, l.Memory = (s.PC+4)/4*4+4*imm, true
	}
	switch i.Op {
	case api.LdrI, api.LdrR, api.LdrL:
		l.R, _ = m.Load(l.Addr)
		l.Old, l.Random = *d, l.Addr == port
	case api.StrI, api.StrR:
		l.R = *d
	case api.B, api.Bc, api.Nop, api.Bkpt:
	default:
		l.R = cameOf(i, s)
		if i.Op != api.CmpI && !(i.Op == api.Alu && (i.Imm == api.Tst || i.Imm == api.Cmp || i.Imm == api.Cmn)) {
			l.Old = *d
		}
	}
	return l
}

// P7.1: every halfword, at any state, does what core.Step does and leaks what the document says of it; nothing, if it is an error.
func TestAsPlain(t *testing.T) {
	r := rand.New(rand.NewSource(7))
	for h := range 1 << 16 {
		for range 4 {
			pc := uint32(2 * r.Intn(12))
			s := anyState(r, pc)
			made := anyMemory(r, pc, uint16(h))
			_, got, _, e := asCore(t, "any", s, made(), made())
			want := api.Leak{}
			if e == api.OK {
				i, _ := thumb.Take(uint16(h))
				want = plain(i, uint16(h), s, made())
			}
			if got != want || t.Failed() {
				t.Fatalf("%04x: Step(%+v) leaks\n %+v, %v\nnot %+v", h, s, got, e, want)
			}
		}
	}
}

// P7.1: many steps in a row, wherever they lead, on one memory.
func TestManySteps(t *testing.T) {
	r := rand.New(rand.NewSource(77))
	for range 2000 {
		made := anyMemory(r, 0, uint16(r.Uint32()))
		m, twin, third := made(), made(), made()
		s := anyState(r, uint32(2*r.Intn(12)))
		for range 40 {
			h, _ := third.Fetch(s.PC)
			i, _ := thumb.Take(h)
			want := plain(i, h, s, third)
			next, got, _, e := asCore(t, "many", s, m, twin)
			if e != api.OK {
				want = api.Leak{}
			} else if i.Op == api.StrI || i.Op == api.StrR {
				third.Store(want.Addr, want.R)
			}
			if got != want || t.Failed() {
				t.Fatalf("%+v: Step(%+v) leaks\n %+v, %v\nnot %+v", i, s, got, e, want)
			}
			s = next
		}
	}
}

// P7.3: R and Old are what the register that is set has behind the instruction and had ahead of it; if none is set, nothing is of old.
func TestWhatIsSet(t *testing.T) {
	r := rand.New(rand.NewSource(73))
	for h := range 1 << 16 {
		i, e := thumb.Take(uint16(h))
		if e != api.OK {
			continue
		}
		d, sets := thumb.Writes(i)
		for range 4 {
			s := anyState(r, 4)
			next, l, _, e := leak.Step(s, anyMemory(r, 4, uint16(h))())
			if e != api.OK {
				continue
			}
			if sets && (l.R != next.R[d] || l.Old != s.R[d]) || !sets && l.Old != 0 {
				t.Fatalf("%+v: Step(%+v)\n = %+v leaks\n %+v", i, s, next, l)
			}
		}
	}
}
