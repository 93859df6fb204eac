package run_test

import (
	"math/rand"
	"testing"

	"bauta/api"
	"bauta/leak"
	"bauta/mem"
	"bauta/run"
)

// plain is a run of its own: words are stored from outside, and each step is done if there is still room for it.
func plain(code []uint16, words, tape []uint32, limit int) api.Outcome {
	n := min(len(words), 16000)
	m := mem.New(code, n, tape)
	for k := n - 1; k >= 0; k-- {
		m.Set(k, words[k])
	}
	o := further(api.Outcome{}, api.State{}, m, min(limit, 1<<20))
	o.Drawn, o.Words = m.Drawn(), m.Words()
	return o
}

// further is o and what up to left further steps make of it.
func further(o api.Outcome, s api.State, m *mem.Mem, left int) api.Outcome {
	for {
		if left <= 0 {
			o.Err = api.ErrSteps
			return o
		}
		next, l, stopped, e := leak.Step(s, m)
		if e != api.OK {
			o.Err = e
			return o
		}
		o.Steps, o.Leaks, s, left = o.Steps+1, append(o.Leaks, l), next, left-1
		if stopped {
			return o
		}
	}
}

// took is how many cycles leaks take, by their halfwords' bits.
func took(l []api.Leak) int {
	sum := 0
	for k, x := range l {
		sum++
		switch {
		case x.Code>>12 == 0b0110, x.Code>>11 == 0b01001, x.Code>>9 == 0b0101100, x.Code>>9 == 0b0101000:
			sum++
		case x.Code>>11 == 0b11100, x.Code>>12 == 0b1101 && x.Code>>8&15 < 14:
			if k+1 < len(l) && l[k+1].PC-x.PC != 2 {
				sum += 2
			}
		}
	}
	return sum
}

// anyCode is code whose start lays where words, the port and the code are in registers 1, 2 and 3, and behind it any instructions, most of which can be done there.
func anyCode(t *testing.T, r *rand.Rand) []uint16 {
	code := assembled(t, atSram+atPort+"movs r3, #0\n")
	for range 1 + r.Intn(30) {
		d, imm := uint16(4*r.Intn(2)+r.Intn(4)*r.Intn(2)), uint16(r.Intn(256))
		switch r.Intn(12) {
		case 0, 1:
			code = append(code, 0x6808|d&4|imm%9<<6) // ldr, words
		case 2, 3:
			code = append(code, 0x6008|d&4|imm%9<<6) // str, words
		case 4:
			code = append(code, 0x6810|d&4) // ldr, the port
		case 5:
			code = append(code, 0x4000|imm<<6&0x3c0|uint16(r.Intn(8))<<3|d&4) // Alu
		case 6, 7:
			code = append(code, 0xd000|uint16(r.Intn(14))<<8|uint16(r.Intn(12)-6)&0xff) // Bc
		case 8:
			code = append(code, 0xe000|uint16(r.Intn(8)-3)&0x7ff) // B
		case 9:
			code = append(code, 0x3000|uint16(4+r.Intn(4))<<8|imm) // adds
		case 10:
			code = append(code, 0x4800|(d&4)<<8|imm&7) // ldr, behind
		case 11:
			code = append(code, []uint16{0xbe00 | imm, 0xbf00, uint16(r.Uint32()), 0x2000 | (d&4)<<8 | imm}[r.Intn(4)])
		}
	}
	return append(code, 0xbe00)
}

// anyWords is up to most words.
func anyWords(r *rand.Rand, most int) []uint32 {
	l := make([]uint32, r.Intn(most+1))
	for k := range l {
		l[k] = r.Uint32() >> (8 * r.Intn(4))
	}
	return l
}

// P8.1, P8.2: runs of any code come to what they come to by another account, and take as many cycles.
func TestAgainstPlain(t *testing.T) {
	r := rand.New(rand.NewSource(8))
	ends, longer := map[api.Errno]int{}, 0
	for range 6000 {
		code, words, tape := anyCode(t, r), anyWords(r, 12), anyWords(r, 12)
		limit := []int{r.Intn(20) - 2, r.Intn(300)}[r.Intn(2)]
		want := plain(code, words, tape, limit)
		both(t, "any code", code, words, tape, limit, want)
		if n := run.Cycles(want.Leaks); n != took(want.Leaks) {
			t.Fatalf("%x: %d cycles, not %d", code, n, took(want.Leaks))
		}
		ends[want.Err]++
		if want.Steps > 10 {
			longer++
		}
	}
	for _, e := range []api.Errno{api.OK, api.ErrFault, api.ErrTape, api.ErrUndef, api.ErrSteps} {
		if ends[e] < 20 {
			t.Errorf("only %d runs came to %v", ends[e], e)
		}
	}
	if longer < 1000 {
		t.Errorf("only %d runs had more than ten steps", longer)
	}
}

// P8.2: any leaks' roads are the same just where all parts are that must be.
func TestRoadAgainstPlain(t *testing.T) {
	r := rand.New(rand.NewSource(82))
	anyLeak := func() api.Leak {
		bit := func() uint32 { return uint32(r.Intn(6) / 5) }
		return api.Leak{PC: bit(), Code: uint16(bit()), A: r.Uint32(), B: bit(), R: bit(), Old: bit(), Bus: bit(), Addr: bit(), Memory: bit() == 1, Random: bit() == 1}
	}
	agree := 0
	for range 20000 {
		a, b := make([]api.Leak, r.Intn(3)), make([]api.Leak, r.Intn(3))
		want := len(a) == len(b)
		for k := range a {
			a[k] = anyLeak()
		}
		for k := range b {
			b[k] = anyLeak()
		}
		for k := 0; want && k < len(a); k++ {
			x, y := a[k], b[k]
			x.A, x.B, x.R, x.Old, x.Bus = y.A, y.B, y.R, y.Old, y.Bus
			want = x == y
		}
		if run.Road(a, b) != want {
			t.Fatalf("Road(%+v, %+v) is not %v", a, b, want)
		}
		if want && len(a) > 0 {
			agree++
		}
	}
	if agree < 100 {
		t.Errorf("only %d roads were the same", agree)
	}
}
