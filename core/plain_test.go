package core_test

import (
	"math/rand"
	"slices"
	"testing"

	"bauta/api"
	"bauta/core"
	"bauta/mem"
	"bauta/thumb"
)

// plain is a second machine, as the document writes it: sums are numbers of more bits, shifts go bit by bit.
type plain struct {
	s api.State
	m *mem.Mem
}

// number is what is done with both: as words, and as numbers with a sign; what is asked of C stands beside.
func (p *plain) number(unsigned, signed int64, carry bool) uint32 {
	p.s.C = carry
	p.s.V = signed < -1<<31 || signed >= 1<<31
	return p.turn(uint32(unsigned))
}

func (p *plain) plus(a, b uint32, more int64) uint32 {
	u := int64(a) + int64(b) + more
	return p.number(u, int64(int32(a))+int64(int32(b))+more, u >= 1<<32)
}

func (p *plain) minus(a, b uint32, more int64) uint32 {
	u := int64(a) - int64(b) - more
	return p.number(u, int64(int32(a))-int64(int32(b))-more, u >= 0)
}

// turn sets N and Z.
func (p *plain) turn(w uint32) uint32 {
	p.s.N, p.s.Z = w >= 1<<31, w == 0
	return w
}

// moved is a, shifted by one bit as often as by says.
func (p *plain) moved(kind int, a, by uint32) uint32 {
	for range by {
		high, low := a&(1<<31), a&1
		switch kind {
		case api.Lsl:
			a, p.s.C = a*2, high != 0
		case api.Lsr:
			a, p.s.C = a/2, low != 0
		case api.Asr:
			a, p.s.C = a/2+high, low != 0
		case api.Ror:
			a, p.s.C = a/2+low<<31, low != 0
		}
	}
	return p.turn(a)
}

func (p *plain) alu(what int, d, m uint32) (uint32, bool) {
	c := int64(0)
	if p.s.C {
		c = 1
	}
	switch what {
	case api.And:
		return p.turn(d & m), true
	case api.Eor:
		return p.turn(d ^ m), true
	case api.LslR:
		return p.moved(api.Lsl, d, m%256), true
	case api.LsrR:
		return p.moved(api.Lsr, d, m%256), true
	case api.AsrR:
		return p.moved(api.Asr, d, m%256), true
	case api.Adc:
		return p.plus(d, m, c), true
	case api.Sbc:
		return p.minus(d, m, 1-c), true
	case api.RorR:
		return p.moved(api.Ror, d, m%256), true
	case api.Tst:
		return p.turn(d & m), false
	case api.Neg:
		return p.minus(0, m, 0), true
	case api.Cmp:
		return p.minus(d, m, 0), false
	case api.Cmn:
		return p.plus(d, m, 0), false
	case api.Orr:
		return p.turn(d | m), true
	case api.Mul:
		return p.turn(uint32(uint64(d) * uint64(m) % (1 << 32))), true
	case api.Bic:
		return p.turn(d - d&m), true
	}
	return p.turn(0xffffffff - m), true
}

// jump sets PC to what counts from 4 bytes ahead of the instruction.
func (p *plain) jump(imm int) {
	p.s.PC = uint32((1<<32 + int64(p.s.PC) + 2 + 2*int64(imm)) % (1 << 32))
}

// do does i, with PC behind it already.
func (p *plain) do(i api.Ins) (stopped bool, err api.Errno) {
	d, n, m, imm := p.s.R[i.D&7], p.s.R[i.N], p.s.R[i.M], uint32(i.Imm)
	at := uint32((uint64(n) + uint64(m)) % (1 << 32))
	if i.Op == api.LdrI || i.Op == api.StrI {
		at = uint32((uint64(n) + 4*uint64(imm)) % (1 << 32))
	}
	w, sets := uint32(0), true
	switch i.Op {
	case api.MovI:
		w = p.turn(imm)
	case api.CmpI:
		w, sets = p.minus(d, imm, 0), false
	case api.AddI:
		w = p.plus(d, imm, 0)
	case api.SubI:
		w = p.minus(d, imm, 0)
	case api.LslI, api.LsrI, api.AsrI:
		w = p.moved(i.Op-api.LslI, m, imm)
	case api.AddR:
		w = p.plus(n, m, 0)
	case api.SubR:
		w = p.minus(n, m, 0)
	case api.AddS:
		w = p.plus(n, imm, 0)
	case api.SubS:
		w = p.minus(n, imm, 0)
	case api.Alu:
		w, sets = p.alu(i.Imm, d, m)
	case api.LdrI, api.LdrR:
		w, err = p.m.Load(at)
	case api.LdrL:
		w, err = p.m.Load((p.s.PC+2)/4*4 + 4*imm)
	case api.StrI, api.StrR:
		err, sets = p.m.Store(at, d), false
	case api.B:
		p.jump(i.Imm)
		sets = false
	case api.Bc:
		k := 0
		for at, flag := range []bool{p.s.V, p.s.C, p.s.Z, p.s.N} {
			if flag {
				k += 1 << at
			}
		}
		if conditions()[i.D][k] == '1' {
			p.jump(i.Imm)
		}
		sets = false
	case api.Nop:
		sets = false
	case api.Bkpt:
		return true, api.OK
	}
	if sets {
		p.s.R[i.D] = w
	}
	return false, err
}

// step is core.Step, done plainly.
func (p *plain) step() (api.State, bool, api.Errno) {
	s := p.s
	h, err := p.m.Fetch(s.PC)
	if err != api.OK {
		return s, false, err
	}
	i, err := thumb.Take(h)
	if err != api.OK {
		return s, false, err
	}
	p.s.PC += 2
	stopped, err := p.do(i)
	if err != api.OK || stopped {
		p.s = s
	}
	return p.s, stopped, err
}

// anyWord is a word at an edge, a small one, one near where something lies, or any.
func anyWord(r *rand.Rand) uint32 {
	edges := []uint32{0, 1, 2, 31, 32, 33, 255, 256, 0x7fffffff, 0x80000000, 0x80000001, 0xfffffffe, 0xffffffff}
	switch r.Intn(6) {
	case 0, 1:
		return edges[r.Intn(len(edges))]
	case 2:
		return uint32(4 * r.Intn(20))
	case 3:
		return sram + uint32(4*r.Intn(20)) - 8
	case 4:
		return []uint32{port, port - 4, port - 124, 0xfffffffc, 0xffffff84}[r.Intn(5)]
	}
	return r.Uint32()
}

// anyState is a state at pc with any words and any flags.
func anyState(r *rand.Rand, pc uint32) api.State {
	s := allFlags(api.State{PC: pc})[r.Intn(16)]
	for k := range s.R {
		s.R[k] = anyWord(r)
	}
	return s
}

// anyMemory makes memory with that instruction at pc; each time it is called the same.
func anyMemory(r *rand.Rand, pc uint32, h uint16) func() *mem.Mem {
	code, words, tape := make([]uint16, 12), make([]uint32, 12), make([]uint32, r.Intn(3))
	for k := range code {
		code[k], words[k] = uint16(r.Uint32()), r.Uint32()
	}
	for k := range tape {
		tape[k] = r.Uint32()
	}
	code[pc/2] = h
	return func() *mem.Mem {
		m := mem.New(code, len(words), tape)
		for k, w := range words {
			m.Set(k, w)
		}
		return m
	}
}

// alike tells whether two memories show the same.
func alike(a, b *mem.Mem) bool {
	return a.Bus() == b.Bus() && a.Drawn() == b.Drawn() && slices.Equal(a.Words(), b.Words())
}

// P6.1, P6.2: every halfword, at any state, does what it does on the plain machine.
func TestAsPlain(t *testing.T) {
	r := rand.New(rand.NewSource(6))
	for h := range 1 << 16 {
		for range 4 {
			pc := uint32(2 * r.Intn(12))
			s := anyState(r, pc)
			made := anyMemory(r, pc, uint16(h))
			m, p := made(), &plain{s, made()}
			got, stopped, e := core.Step(s, m)
			want, stops, err := p.step()
			if got != want || stopped != stops || e != err || !alike(m, p.m) {
				t.Fatalf("%04x: Step(%+v)\n = %+v, %v, %v\nnot %+v, %v, %v", h, s, got, stopped, e, want, stops, err)
			}
		}
	}
}

// P6.1, P6.2: many steps in a row, wherever they lead, on one memory.
func TestManySteps(t *testing.T) {
	r := rand.New(rand.NewSource(66))
	for range 2000 {
		made := anyMemory(r, 0, uint16(r.Uint32()))
		m, p := made(), &plain{anyState(r, uint32(2*r.Intn(12))), made()}
		s := p.s
		for range 40 {
			got, stopped, e := core.Step(s, m)
			want, stops, err := p.step()
			if got != want || stopped != stops || e != err || !alike(m, p.m) {
				t.Fatalf("Step(%+v)\n = %+v, %v, %v\nnot %+v, %v, %v", s, got, stopped, e, want, stops, err)
			}
			s = got
		}
	}
}

// P6.4: but for PC and flags just the register changes that Writes tells; and neither it nor anything else hangs on a register that Reads does not tell.
func TestOneRegister(t *testing.T) {
	r := rand.New(rand.NewSource(64))
	for h := range 1 << 16 {
		i, e := thumb.Take(uint16(h))
		if e != api.OK {
			continue
		}
		reads := thumb.Reads(i)
		d, sets := thumb.Writes(i)
		s := anyState(r, 4)
		made := anyMemory(r, 4, uint16(h))
		m := made()
		got, stopped, err := core.Step(s, m)
		for k, w := range got.R {
			if w != s.R[k] && !(sets && k == d) {
				t.Fatalf("%+v: register %d of %+v is %#x", i, k, s, w)
			}
		}
		other := s
		for k := range other.R {
			if !slices.Contains(reads, k) {
				other.R[k] = ^s.R[k]
			}
		}
		m2 := made()
		got2, stopped2, err2 := core.Step(other, m2)
		if err2 != err || stopped2 != stopped || !alike(m, m2) || err == api.OK && sets && got2.R[d] != got.R[d] {
			t.Fatalf("%+v: of %+v\n %+v, %v, %v, of %+v\n %+v, %v, %v", i, s, got, stopped, err, other, got2, stopped2, err2)
		}
		got2.R = got.R
		if got2 != got {
			t.Fatalf("%+v: PC or flags of %+v\n %+v, of %+v\n %+v", i, s, got, other, got2)
		}
	}
}
