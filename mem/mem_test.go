package mem_test

import (
	"math"
	"math/rand"
	"slices"
	"strconv"
	"testing"

	"bauta/api"
	"bauta/mem"
)

// Where things lie, and how much there is at most, as the document writes it.
const (
	sram     = uint32(0x20000000)
	port     = uint32(0x40000000)
	maxCode  = 60000
	maxWords = 16000
)

// rising is n halfwords whose bytes differ.
func rising(n int) []uint16 {
	code := make([]uint16, n)
	for k := range code {
		code[k] = uint16(40503 * (k + 1))
	}
	return code
}

// walk is n words, a fixed walk from a beginning on.
func walk(n int, w uint32) []uint32 {
	l := make([]uint32, n)
	for k := range l {
		w = w*1664525 + 1013904223
		l[k] = w
	}
	return l
}

// roomy is a copy of l with spare room behind it, filled with spare.
func roomy[T any](l []T, spare T) []T {
	out := append(slices.Clone(l), spare, spare, spare)
	return out[:len(l)]
}

// spoil writes over a list, its spare room included.
func spoil[T any](l []T, with T) {
	l = l[:cap(l)]
	for k := range l {
		l[k] = with
	}
}

// loads looks what a Load answers, and, if it went, that the bus has it.
func loads(t *testing.T, m *mem.Mem, addr, want uint32, err api.Errno) {
	t.Helper()
	drawn, bus := m.Drawn(), m.Bus()
	if w, e := m.Load(addr); w != want || e != err {
		t.Errorf("Load(%#x) = %#x, %v, not %#x, %v", addr, w, e, want, err)
	}
	if err == api.OK {
		bus = want
		if addr == port {
			drawn++
		}
	}
	shows(t, m, bus, drawn)
}

// stores looks what a Store answers, and, if it went, that the bus has the word.
func stores(t *testing.T, m *mem.Mem, addr, w uint32, err api.Errno) {
	t.Helper()
	drawn, bus := m.Drawn(), m.Bus()
	if e := m.Store(addr, w); e != err {
		t.Errorf("Store(%#x, %#x) = %v, not %v", addr, w, e, err)
	}
	if err == api.OK {
		bus = w
	}
	shows(t, m, bus, drawn)
}

// fetches looks what a Fetch answers, and that the bus stays.
func fetches(t *testing.T, m *mem.Mem, addr uint32, want uint16, err api.Errno) {
	t.Helper()
	drawn, bus := m.Drawn(), m.Bus()
	if h, e := m.Fetch(addr); h != want || e != err {
		t.Errorf("Fetch(%#x) = %#x, %v, not %#x, %v", addr, h, e, want, err)
	}
	shows(t, m, bus, drawn)
}

func shows(t *testing.T, m *mem.Mem, bus uint32, drawn int) {
	t.Helper()
	if m.Bus() != bus || m.Drawn() != drawn {
		t.Errorf("Bus %#x, Drawn %d, not %#x, %d", m.Bus(), m.Drawn(), bus, drawn)
	}
}

func has(t *testing.T, m *mem.Mem, want ...uint32) {
	t.Helper()
	if l := m.Words(); !slices.Equal(l, want) {
		t.Errorf("Words() = %x, not %x", l, want)
	}
}

// P5.1: so many words of 0, none below 0, and not more than there may be.
func TestHowManyWords(t *testing.T) {
	for _, x := range []struct{ words, want int }{
		{math.MinInt, 0}, {math.MinInt32, 0}, {-16000, 0}, {-2, 0}, {-1, 0}, {0, 0}, {1, 1}, {2, 2}, {3, 3}, {255, 255}, {256, 256},
		{15999, 15999}, {16000, maxWords}, {16001, maxWords}, {16002, maxWords}, {1 << 16, maxWords}, {math.MaxInt32, maxWords}, {1 << 32, maxWords}, {math.MaxInt, maxWords},
	} {
		m := mem.New(rising(2), x.words, walk(1, 1))
		has(t, m, make([]uint32, x.want)...)
		end := sram + 4*uint32(x.want)
		loads(t, m, end, 0, api.ErrFault)
		stores(t, m, end, 7, api.ErrFault)
		if w, is := m.Word(x.want); w != 0 || is {
			t.Errorf("%d words: Word(%d) = %d, %v", x.words, x.want, w, is)
		}
		if x.want == 0 {
			continue
		}
		if w, is := m.Word(x.want - 1); w != 0 || !is {
			t.Errorf("%d words: Word(%d) = %d, %v", x.words, x.want-1, w, is)
		}
		loads(t, m, end-4, 0, api.OK)
		stores(t, m, end-4, 7, api.OK)
		loads(t, m, end-4, 7, api.OK)
	}
}

// P5.1: the first 60000 halfwords count, to be fetched and to be loaded.
func TestHowMuchCode(t *testing.T) {
	for _, tape := range [][]uint32{nil, {}, {5}} {
		for _, n := range []int{0, 1, 2, 3, 4, 59999, 60000, 60001, 60002, 70000} {
			code := rising(n)
			m := mem.New(code, 1, tape)
			end := min(n, maxCode)
			for k := max(0, end-4); k < end; k++ {
				fetches(t, m, uint32(2*k), code[k], api.OK)
			}
			for k := end; k < end+4; k++ {
				fetches(t, m, uint32(2*k), 0, api.ErrFault)
			}
			if whole := uint32(end / 2 * 4); whole > 0 {
				loads(t, m, whole-4, uint32(code[end/2*2-2])+uint32(code[end/2*2-1])*65536, api.OK)
			}
			for k := range uint32(3) {
				loads(t, m, uint32(end/2*4)+4*k, 0, api.ErrFault)
			}
		}
	}
}

// P5.1: what lies where, without code, words and a tape.
func TestOfNothing(t *testing.T) {
	for _, m := range []*mem.Mem{mem.New(nil, 0, nil), mem.New([]uint16{}, -1, []uint32{})} {
		shows(t, m, 0, 0)
		has(t, m)
		for _, addr := range []uint32{0, 2, 4, sram, sram + 4, port - 4, port + 4, math.MaxUint32 - 3} {
			loads(t, m, addr, 0, api.ErrFault)
			stores(t, m, addr, 7, api.ErrFault)
			fetches(t, m, addr, 0, api.ErrFault)
		}
		loads(t, m, port, 0, api.ErrTape)
		stores(t, m, port, 7, api.ErrFault)
		fetches(t, m, port, 0, api.ErrFault)
		if w, is := m.Word(0); w != 0 || is || m.Set(0, 7) {
			t.Errorf("Word(0) = %d, %v", w, is)
		}
		has(t, m)
	}
}

// P5.1: what it was given is its own: it is neither changed by the machine nor is a change of it seen, and spare room is neither code nor tape.
func TestKeepsWhatItIsGiven(t *testing.T) {
	code, tape := roomy(rising(3), 0xeeee), roomy(walk(2, 9), 0xeeeeeeee)
	m, other := mem.New(code, 2, tape), mem.New(code, 2, tape)
	use := func(m *mem.Mem) {
		for k, h := range rising(3) {
			fetches(t, m, uint32(2*k), h, api.OK)
		}
		fetches(t, m, 6, 0, api.ErrFault)
		loads(t, m, 0, 0x3c6e9e37, api.OK)
		loads(t, m, 4, 0, api.ErrFault)
		stores(t, m, sram, 0x11111111, api.OK)
		stores(t, m, sram+4, 0x22222222, api.OK)
		for _, w := range walk(2, 9) {
			loads(t, m, port, w, api.OK)
		}
		loads(t, m, port, 0, api.ErrTape)
	}
	use(m)
	if want := append(rising(3), 0xeeee, 0xeeee, 0xeeee); !slices.Equal(code[:6], want) {
		t.Errorf("the code was changed: %x", code[:6])
	}
	if want := append(walk(2, 9), 0xeeeeeeee, 0xeeeeeeee, 0xeeeeeeee); !slices.Equal(tape[:5], want) {
		t.Errorf("the tape was changed: %x", tape[:5])
	}
	spoil(code, 0xdddd)
	spoil(tape, 0xdddddddd)
	shows(t, other, 0, 0)
	has(t, other, 0, 0)
	use(other)
}

// P5.1: of code that is too long, what counts is the machine's own, too.
func TestKeepsLongCode(t *testing.T) {
	code := rising(60001)
	m := mem.New(code, 0, nil)
	spoil(code, 0xdddd)
	for k, h := range rising(60000) {
		fetches(t, m, uint32(2*k), h, api.OK)
	}
	fetches(t, m, 120000, 0, api.ErrFault)
}

// P5.2: of code two halfwords, the first one the lower half.
func TestLoadOfCode(t *testing.T) {
	m := mem.New([]uint16{0x2105, 0xbe00, 0xffff, 0, 0, 0x8000, 0x1234}, 1, []uint32{9})
	for addr, want := range map[uint32]uint32{0: 0xbe002105, 4: 0x0000ffff, 8: 0x80000000} {
		loads(t, m, addr, want, api.OK)
	}
	// Of the last word one halfword is missing, and of the ones beyond it both.
	for _, addr := range []uint32{12, 16, 20, 0x10000, 0x1fffffff &^ 3, 0x10000000} {
		loads(t, m, addr, 0, api.ErrFault)
	}
	fetches(t, m, 12, 0x1234, api.OK)
}

// P5.2: an address that is no multiple of 4 is a fault, wherever it is; at the port nothing is drawn then.
func TestLoadBesideWords(t *testing.T) {
	m := mem.New(rising(8), 4, walk(4, 1))
	for i := range 4 {
		m.Set(i, uint32(i+1))
	}
	for _, base := range []uint32{0, 4, 12, sram - 4, sram, sram + 4, sram + 12, port - 4, port, port + 4, math.MaxUint32 - 3} {
		for by := uint32(1); by < 4; by++ {
			loads(t, m, base+by, 0, api.ErrFault)
			stores(t, m, base+by, 0xee, api.ErrFault)
		}
	}
	has(t, m, 1, 2, 3, 4)
	shows(t, m, 0, 0)
	loads(t, m, port, walk(4, 1)[0], api.OK)
}

// P5.2: the first and the last word of memory, below and beyond.
func TestLoadOfMemory(t *testing.T) {
	for _, words := range []int{1, 2, 5, 16000} {
		m := mem.New(rising(2), words, []uint32{9})
		for i, w := range walk(words, 3) {
			m.Set(i, w)
		}
		for i, w := range walk(words, 3) {
			loads(t, m, sram+4*uint32(i), w, api.OK)
		}
		for _, addr := range []uint32{sram - 4, sram - 8, sram + 4*uint32(words), sram + 4*uint32(words) + 4, sram + 4*16000, 0x30000000, 0x60000000, 0xa0000000} {
			loads(t, m, addr, 0, api.ErrFault)
			stores(t, m, addr, 7, api.ErrFault)
		}
		has(t, m, walk(words, 3)...)
	}
}

// P5.2, P5.3: at the port one word of the tape behind the other, until there is none any more; so it stays.
func TestLoadAtPort(t *testing.T) {
	for _, n := range []int{0, 1, 2, 3, 1000} {
		m := mem.New(nil, 1, walk(n, 5))
		shows(t, m, 0, 0)
		for k, w := range walk(n, 5) {
			loads(t, m, port-4, 0, api.ErrFault)
			loads(t, m, port+4, 0, api.ErrFault)
			shows(t, m, m.Bus(), k)
			loads(t, m, port, w, api.OK)
			shows(t, m, w, k+1)
		}
		for range 3 {
			loads(t, m, port, 0, api.ErrTape)
			shows(t, m, m.Bus(), n)
		}
		stores(t, m, sram, 1, api.OK)
		loads(t, m, port, 0, api.ErrTape)
		loads(t, m, sram, 1, api.OK)
		shows(t, m, 1, n)
	}
}

// P5.2: where nothing lies: beside all, and at the ends of all addresses.
func TestLoadElsewhere(t *testing.T) {
	m := mem.New(rising(4), 3, walk(3, 2))
	for _, addr := range []uint32{
		8, 12, 0x1ffffffc, sram + 12, sram + 16, 0x3ffffffc, 0x40000004, 0x40000008, 0x50000000, 0x60000000, 0x7ffffffc,
		0x80000000, 0xa0000000, 0xc0000000, 0xe0000000, 0xfffffff8, 0xfffffffc,
	} {
		loads(t, m, addr, 0, api.ErrFault)
		stores(t, m, addr, 7, api.ErrFault)
		fetches(t, m, addr, 0, api.ErrFault)
	}
	has(t, m, 0, 0, 0)
	shows(t, m, 0, 0)
}

// P5.2: a word of memory is what was stored there last, and no other one is.
func TestStore(t *testing.T) {
	m := mem.New(rising(4), 3, walk(3, 2))
	stores(t, m, sram+4, 7, api.OK)
	has(t, m, 0, 7, 0)
	loads(t, m, sram+4, 7, api.OK)
	stores(t, m, sram, 0xffffffff, api.OK)
	stores(t, m, sram+8, 0x80000001, api.OK)
	has(t, m, 0xffffffff, 7, 0x80000001)
	stores(t, m, sram+4, 0, api.OK)
	has(t, m, 0xffffffff, 0, 0x80000001)
	for i, want := range []uint32{0xffffffff, 0, 0x80000001} {
		if w, is := m.Word(i); w != want || !is {
			t.Errorf("Word(%d) = %#x, %v", i, w, is)
		}
	}
}

// P5.2: a Store goes to a word of memory alone: neither code nor the tape is another one behind it.
func TestStoreElsewhere(t *testing.T) {
	m := mem.New(rising(4), 2, walk(2, 2))
	m.Set(0, 1)
	m.Set(1, 2)
	for _, addr := range []uint32{0, 1, 2, 4, 6, 8, sram - 4, sram - 1, sram + 1, sram + 2, sram + 3, sram + 5, sram + 8, port - 4, port - 1, port, port + 1, port + 4, 0xfffffffc, 0xffffffff} {
		stores(t, m, addr, 0xee, api.ErrFault)
	}
	has(t, m, 1, 2)
	shows(t, m, 0, 0)
	for k, h := range rising(4) {
		fetches(t, m, uint32(2*k), h, api.OK)
	}
	for _, w := range walk(2, 2) {
		loads(t, m, port, w, api.OK)
	}
}

// P5.2: a halfword of code, at even addresses within it.
func TestFetch(t *testing.T) {
	for _, n := range []int{1, 2, 5, 59999, 60000} {
		m := mem.New(rising(n), 4, walk(4, 6))
		m.Store(sram, 0x12345678)
		end := uint32(2 * n)
		fetches(t, m, 0, rising(n)[0], api.OK)
		fetches(t, m, end-2, rising(n)[n-1], api.OK)
		for _, addr := range []uint32{1, end - 1, end, end + 1, end + 2, sram - 2, sram, sram + 1, sram + 2, port - 2, port, port + 2, 0x80000000, 0xfffffffc, 0xfffffffe, 0xffffffff} {
			fetches(t, m, addr, 0, api.ErrFault)
		}
		loads(t, m, port, walk(4, 6)[0], api.OK)
	}
}

// P5.3: the bus has what was loaded or stored last, from wherever; what did not go, Fetch, and the ways around it leave it.
func TestBus(t *testing.T) {
	m := mem.New([]uint16{0x2105, 0xbe00, 0x4770}, 2, []uint32{0xaaaaaaaa, 0})
	bus := func(want uint32) {
		t.Helper()
		for range 2 {
			if m.Bus() != want {
				t.Fatalf("Bus() = %#x, not %#x", m.Bus(), want)
			}
		}
	}
	bus(0)
	m.Fetch(0)
	m.Set(0, 0x77777777)
	m.Word(0)
	m.Words()
	bus(0)
	m.Load(sram)
	bus(0x77777777)
	m.Store(sram+4, 5)
	bus(5)
	m.Load(0)
	bus(0xbe002105)
	m.Load(port)
	bus(0xaaaaaaaa)
	for _, addr := range []uint32{1, 4, 8, sram + 1, sram + 8, port + 4, 0xfffffffc} {
		m.Load(addr)
		m.Store(addr, 3)
		bus(0xaaaaaaaa)
	}
	m.Store(port, 3)
	m.Store(0, 3)
	m.Fetch(2)
	m.Fetch(6)
	m.Fetch(1)
	m.Set(1, 9)
	m.Set(2, 9)
	m.Word(1)
	m.Words()
	bus(0xaaaaaaaa)
	m.Load(port)
	bus(0)
	m.Load(sram + 4)
	bus(9)
	m.Load(port)
	bus(9)
	m.Store(sram, 0)
	bus(0)
}

// P5.3: Drawn counts what was loaded from the port, and nothing else.
func TestDrawn(t *testing.T) {
	m := mem.New(rising(2), 1, walk(2, 4))
	drawn := func(want int) {
		t.Helper()
		for range 2 {
			if m.Drawn() != want {
				t.Fatalf("Drawn() = %d, not %d", m.Drawn(), want)
			}
		}
	}
	drawn(0)
	m.Load(sram)
	m.Load(0)
	m.Store(port, 1)
	m.Store(sram, 1)
	m.Fetch(port)
	m.Load(port + 1)
	drawn(0)
	m.Load(port)
	drawn(1)
	m.Store(port, 1)
	m.Load(port + 4)
	drawn(1)
	m.Load(port)
	drawn(2)
	m.Load(port)
	drawn(2)
	m.Load(port)
	m.Load(sram)
	drawn(2)
}

// P5.3: Word and Set from the first to the last one, and there is none elsewhere; Set keeps to its word.
func TestWordAndSet(t *testing.T) {
	for _, words := range []int{0, 1, 2, 7, 16000} {
		m := mem.New(rising(2), words, walk(1, 1))
		want := make([]uint32, words)
		for _, i := range []int{0, words / 2, words - 1} {
			if words == 0 {
				break
			}
			if !m.Set(i, uint32(i)+0xfffffff0) {
				t.Errorf("%d words: Set(%d) is false", words, i)
			}
			want[i] = uint32(i) + 0xfffffff0
			if w, is := m.Word(i); w != want[i] || !is {
				t.Errorf("%d words: Word(%d) = %#x, %v", words, i, w, is)
			}
			has(t, m, want...)
		}
		for _, i := range []int{-1, -2, words, words + 1, 16000, 16001, math.MinInt, math.MinInt32, math.MaxInt32, 1 << 32, math.MaxInt} {
			if m.Set(i, 0xee) {
				t.Errorf("%d words: Set(%d) is true", words, i)
			}
			if w, is := m.Word(i); w != 0 || is {
				t.Errorf("%d words: Word(%d) = %#x, %v", words, i, w, is)
			}
		}
		has(t, m, want...)
		shows(t, m, 0, 0)
	}
}

// P5.3: Words are all, at first and behind stores, in memory that neither the machine nor another answer has.
func TestWords(t *testing.T) {
	m := mem.New(rising(2), 3, nil)
	first := m.Words()
	if !slices.Equal(first, []uint32{0, 0, 0}) {
		t.Errorf("Words() = %x", first)
	}
	m.Store(sram, 1)
	m.Set(1, 2)
	m.Store(sram+8, 3)
	if !slices.Equal(first, []uint32{0, 0, 0}) {
		t.Errorf("an answer of Words was changed: %x", first)
	}
	second, third := m.Words(), m.Words()
	spoil(first, 0xee)
	spoil(second, 0xdd)
	if !slices.Equal(third, []uint32{1, 2, 3}) {
		t.Errorf("another answer of Words was changed: %x", third)
	}
	has(t, m, 1, 2, 3)
	_ = append(third[:2], 0xcc)
	_ = append(m.Words(), 0xbb, 0xaa)
	has(t, m, 1, 2, 3)
	loads(t, m, sram+8, 3, api.OK)
	none := mem.New(nil, 0, nil).Words()
	_ = append(none, 1)
	if len(none) != 0 {
		t.Errorf("Words() of none = %x", none)
	}
}

// Two machines know nothing of one another.
func TestTwoMachines(t *testing.T) {
	code, tape := rising(2), walk(2, 8)
	a, b := mem.New(code, 2, tape), mem.New(code, 2, tape)
	stores(t, a, sram, 7, api.OK)
	loads(t, a, port, tape[0], api.OK)
	loads(t, a, port, tape[1], api.OK)
	shows(t, b, 0, 0)
	has(t, b, 0, 0)
	loads(t, b, port, tape[0], api.OK)
	shows(t, a, tape[1], 2)
}

// plain is memory again, each address looked for one by one.
type plain struct {
	at    map[uint32]uint32
	code  []uint16
	words int
	tape  []uint32
	drawn int
	bus   uint32
}

func (p *plain) load(addr uint32) (uint32, api.Errno) {
	if addr == port {
		if len(p.tape) == 0 {
			return 0, api.ErrTape
		}
		p.bus, p.tape, p.drawn = p.tape[0], p.tape[1:], p.drawn+1
		return p.bus, api.OK
	}
	for k := 0; k+1 < len(p.code); k += 2 {
		if addr == uint32(2*k) {
			p.bus = uint32(p.code[k]) + uint32(p.code[k+1])*65536
			return p.bus, api.OK
		}
	}
	for i := range p.words {
		if addr == sram+uint32(4*i) {
			p.bus = p.at[addr]
			return p.bus, api.OK
		}
	}
	return 0, api.ErrFault
}

func (p *plain) store(addr, w uint32) api.Errno {
	for i := range p.words {
		if addr == sram+uint32(4*i) {
			p.at[addr], p.bus = w, w
			return api.OK
		}
	}
	return api.ErrFault
}

func (p *plain) fetch(addr uint32) (uint16, api.Errno) {
	for k, h := range p.code {
		if addr == uint32(2*k) {
			return h, api.OK
		}
	}
	return 0, api.ErrFault
}

// anyAddress is one near where something lies, or anywhere.
func anyAddress(r *rand.Rand) uint32 {
	bases := []uint32{0, 0, sram, sram, sram, port, port, 0x60000000, r.Uint32()}
	addr := bases[r.Intn(len(bases))] + uint32(4*r.Intn(10)) - 8
	switch r.Intn(6) {
	case 0:
		return addr + 2
	case 1:
		return addr + uint32(r.Intn(4))
	}
	return addr
}

// P5.1 to P5.3: many calls, one behind the other, on memory and on a plain one.
func TestManyCalls(t *testing.T) {
	r := rand.New(rand.NewSource(5))
	for round := range 300 {
		code, tape, words := rising(r.Intn(9)), walk(r.Intn(12), r.Uint32()), r.Intn(7)
		m := mem.New(code, words, tape)
		p := &plain{map[uint32]uint32{}, code, words, slices.Clone(tape), 0, 0}
		for call := range 200 {
			what := "round " + strconv.Itoa(round) + ", call " + strconv.Itoa(call)
			addr, w, i := anyAddress(r), r.Uint32(), r.Intn(9)-1
			switch r.Intn(5) {
			case 0, 1:
				got, e := m.Load(addr)
				if want, err := p.load(addr); got != want || e != err {
					t.Fatalf("%s: Load(%#x) = %#x, %v, not %#x, %v", what, addr, got, e, want, err)
				}
			case 2:
				e := m.Store(addr, w)
				if err := p.store(addr, w); e != err {
					t.Fatalf("%s: Store(%#x) = %v, not %v", what, addr, e, err)
				}
			case 3:
				got, e := m.Fetch(addr)
				if want, err := p.fetch(addr); got != want || e != err {
					t.Fatalf("%s: Fetch(%#x) = %#x, %v, not %#x, %v", what, addr, got, e, want, err)
				}
			case 4:
				is := 0 <= i && i < words
				if m.Set(i, w) != is {
					t.Fatalf("%s: Set(%d) = %v", what, i, !is)
				}
				if is {
					p.at[sram+uint32(4*i)] = w
				}
			}
			if m.Bus() != p.bus || m.Drawn() != p.drawn {
				t.Fatalf("%s: Bus %#x, Drawn %d, not %#x, %d", what, m.Bus(), m.Drawn(), p.bus, p.drawn)
			}
		}
		for i, w := range m.Words() {
			if one, is := m.Word(i); w != p.at[sram+uint32(4*i)] || one != w || !is {
				t.Fatalf("round %d: word %d is %#x, Word %#x, %v", round, i, w, one, is)
			}
		}
		if len(m.Words()) != words {
			t.Fatalf("round %d: %d words, not %d", round, len(m.Words()), words)
		}
	}
}
