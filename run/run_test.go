package run_test

import (
	"math"
	"slices"
	"strings"
	"testing"

	"bauta/api"
	"bauta/run"
	"bauta/text"
)

// Where things lie, as the document writes it; most is how many steps a run has at most.
const (
	sram = uint32(0x20000000)
	port = uint32(0x40000000)
	most = 1 << 20
)

// Starts of code: r1 is where memory's words lie, r2 the port.
const (
	atSram = "movs r1, #1\nlsls r1, r1, #29\n"
	atPort = "movs r2, #1\nlsls r2, r2, #30\n"
)

// undefined is a line of a halfword that is no instruction.
const undefined = "?b500\n"

// assembled is the code of a text.
func assembled(t *testing.T, lines string) []uint16 {
	t.Helper()
	code, line, e := text.Program(lines)
	if e != api.OK {
		t.Fatalf("line %d of %q: %v", line, lines, e)
	}
	return code
}

// nops is code of n instructions that do nothing.
func nops(n int) []uint16 {
	code := make([]uint16, n)
	for k := range code {
		code[k] = 0xbf00
	}
	return code
}

// counted is n words that all differ, from from on.
func counted(from uint32, n int) []uint32 {
	l := make([]uint32, n)
	for k := range l {
		l[k] = from + uint32(k)
	}
	return l
}

// same tells whether two outcomes are the same, leaks included; nil and empty lists are alike.
func same(a, b api.Outcome) bool {
	return a.Steps == b.Steps && a.Drawn == b.Drawn && a.Err == b.Err && slices.Equal(a.Words, b.Words) && slices.Equal(a.Leaks, b.Leaks)
}

// short is an outcome without its lists but for how long they are, to be told of.
func short(o api.Outcome) [5]int {
	return [5]int{o.Steps, o.Drawn, int(o.Err), len(o.Words), len(o.Leaks)}
}

// both looks that Exec comes to what is wanted, and Quick to the same without leaks.
func both(t *testing.T, what string, code []uint16, words, tape []uint32, limit int, want api.Outcome) {
	t.Helper()
	if got := run.Exec(code, words, tape, limit); !same(got, want) {
		t.Errorf("%s: Exec to %d: steps, drawn, error, words, leaks %v, not %v, or one of a list differs", what, limit, short(got), short(want))
	}
	want.Leaks = nil
	if got := run.Quick(code, words, tape, limit); !same(got, want) {
		t.Errorf("%s: Quick to %d: steps, drawn, error, words, leaks %v, not %v, or one of a list differs", what, limit, short(got), short(want))
	}
}

// comes is a run, and how it comes to its end, whatever the limit: behind so many steps, with that error.
type comes struct {
	what        string
	lines       string
	words, tape []uint32
	steps       int
	err         api.Errno
	drawn       int
	left        []uint32
}

// runs is code that comes to its end in each way in which it can, at once and behind some steps.
func runs() []comes {
	return []comes{
		{what: "bkpt at once", lines: "bkpt #0", steps: 1},
		{what: "bkpt of another number", lines: "bkpt #255", steps: 1},
		{what: "the document's example", lines: "movs r0, #1\nbkpt #0", steps: 2},
		{what: "what is behind bkpt is passed over", lines: "nop\nbkpt #3\n" + undefined + "bkpt #0", steps: 2},
		{what: "a branch past an instruction that is none", lines: "b #0\n" + undefined + "bkpt #0", steps: 2},
		{what: "a count down", lines: "movs r0, #3\nsubs r0, #1\nbne #-6\nbkpt #0", steps: 8},
		{what: "one word loaded", lines: atSram + "ldr r0, [r1, #0]\nbkpt #0", words: []uint32{9}, left: []uint32{9}, steps: 4},
		{what: "a word copied", lines: atSram + "ldr r0, [r1, #0]\nstr r0, [r1, #8]\nbkpt #0", words: []uint32{9, 8, 7}, left: []uint32{9, 8, 9}, steps: 5},
		{what: "words left as they are", lines: "bkpt #0", words: []uint32{1, 0, 0xffffffff}, left: []uint32{1, 0, 0xffffffff}, steps: 1},
		{what: "a word stored ahead of an error", lines: atSram + "str r1, [r1, #4]\n" + undefined, words: []uint32{1, 2}, left: []uint32{1, sram}, steps: 3, err: api.ErrUndef},
		{what: "one word drawn of one", lines: atPort + "ldr r0, [r2, #0]\nbkpt #0", tape: []uint32{5}, drawn: 1, steps: 4},
		{what: "two words drawn and stored", lines: atSram + atPort + "ldr r0, [r2, #0]\nstr r0, [r1, #0]\nldr r0, [r2, #0]\nstr r0, [r1, #4]\nbkpt #0", words: []uint32{0, 0}, tape: []uint32{5, 6}, drawn: 2, left: []uint32{5, 6}, steps: 9},
		{what: "a tape longer than drawn", lines: atPort + "ldr r0, [r2, #0]\nbkpt #0", tape: []uint32{5, 6, 7}, drawn: 1, steps: 4},
		{what: "a tape of which nothing is drawn", lines: "bkpt #0", tape: []uint32{5, 6, 7}, steps: 1},
		{what: "no tape", lines: atPort + "ldr r0, [r2, #0]\nbkpt #0", steps: 2, err: api.ErrTape},
		{what: "a tape too short by one", lines: atPort + "ldr r0, [r2, #0]\nldr r0, [r2, #0]\nldr r0, [r2, #0]\nbkpt #0", tape: []uint32{5, 6}, drawn: 2, steps: 4, err: api.ErrTape},
		{what: "a store to the port", lines: atPort + "str r0, [r2, #0]\nbkpt #0", tape: []uint32{5}, steps: 2, err: api.ErrFault},
		{what: "no code", steps: 0, err: api.ErrFault},
		{what: "past the code's end", lines: "nop\nnop", steps: 2, err: api.ErrFault},
		{what: "a branch ahead of the code", lines: "b #-6\nbkpt #0", steps: 1, err: api.ErrFault},
		{what: "no instruction at once", lines: undefined + "bkpt #0", steps: 0, err: api.ErrUndef},
		{what: "no instruction behind some", lines: "nop\nnop\n" + undefined + "bkpt #0", steps: 2, err: api.ErrUndef},
		{what: "no such word at once", lines: "str r0, [r0, #0]\nbkpt #0", steps: 0, err: api.ErrFault},
		{what: "no word behind the last one", lines: atSram + "ldr r0, [r1, #4]\nbkpt #0", words: []uint32{3}, left: []uint32{3}, steps: 2, err: api.ErrFault},
		{what: "no multiple of four", lines: "movs r1, #2\nldr r0, [r1, #0]\nbkpt #0\nnop", steps: 1, err: api.ErrFault},
		{what: "an error in a loop's second round", lines: atPort + "ldr r0, [r2, #0]\nb #-6", tape: []uint32{5}, drawn: 1, steps: 4, err: api.ErrTape},
	}
}

// P8.1: each run comes to its end as it is written here, with no fewer steps than it takes and with many more, and where the limit falls on the end: a bkpt is a step, an error is none, and ahead of both the limit holds.
func TestEnds(t *testing.T) {
	for _, x := range runs() {
		code := assembled(t, x.lines)
		// Just enough: a bkpt is the last step, an error is found in one step more.
		least := x.steps
		if x.err != api.OK {
			least++
		}
		for _, limit := range []int{least, least + 1, least + 100, most - 1, most, most + 1, math.MaxInt} {
			whole := run.Exec(code, x.words, x.tape, limit)
			if whole.Steps != x.steps || whole.Err != x.err || whole.Drawn != x.drawn || !slices.Equal(whole.Words, x.left) || len(whole.Leaks) != x.steps {
				t.Errorf("%s: Exec to %d: %+v, not %d steps, %v, %d drawn, words %x", x.what, limit, whole, x.steps, x.err, x.drawn, x.left)
			}
			both(t, x.what, code, x.words, x.tape, limit, plain(code, x.words, x.tape, limit))
		}
		for limit := range least {
			o := run.Exec(code, x.words, x.tape, limit)
			if o.Steps != limit || o.Err != api.ErrSteps || len(o.Leaks) != limit {
				t.Errorf("%s: Exec to %d: %+v, not ErrSteps behind just as many", x.what, limit, o)
			}
			both(t, x.what, code, x.words, x.tape, limit, plain(code, x.words, x.tape, limit))
		}
	}
}

// P8.1: a limit of 0 or below lets no step be done, whatever the code: ErrSteps, and memory is what it was.
func TestNoSteps(t *testing.T) {
	for _, x := range runs() {
		for _, limit := range []int{0, -1, -2, -most, math.MinInt} {
			both(t, x.what, assembled(t, x.lines), x.words, x.tape, limit, api.Outcome{Err: api.ErrSteps, Words: x.words})
		}
	}
	both(t, "nothing at all", nil, nil, nil, 0, api.Outcome{Err: api.ErrSteps})
	both(t, "nothing at all", nil, nil, nil, 1, api.Outcome{Err: api.ErrFault})
}

// P8.1: what never ends goes on for the limit's steps, and for 2^20 at most.
func TestNeverEnds(t *testing.T) {
	code := assembled(t, "b #-4")
	for _, limit := range []int{1, 2, 1000, most - 1, most, most + 1, math.MaxInt} {
		steps := min(limit, most)
		leaks := make([]api.Leak, steps)
		for k := range leaks {
			leaks[k].Code = code[0]
		}
		both(t, "b to itself", code, []uint32{4}, []uint32{5}, limit, api.Outcome{Steps: steps, Err: api.ErrSteps, Words: []uint32{4}, Leaks: leaks})
	}
	// What is stored up to the limit is there: a word that counts the rounds of three steps.
	code = assembled(t, atSram+"adds r0, #1\nstr r0, [r1, #0]\nb #-8")
	for limit := range 40 {
		o := run.Quick(code, []uint32{0}, nil, limit)
		if stored := max(0, limit-1) / 3; o.Words[0] != uint32(stored) || o.Err != api.ErrSteps || o.Steps != limit {
			t.Errorf("to %d: %+v, not %d rounds", limit, o, stored)
		}
	}
}

// P8.1: a run of just 2^20 steps comes to its bkpt; one of one step more does not, whatever the limit.
func TestMostSteps(t *testing.T) {
	just := "movs r0, #1\nlsls r0, r0, #19\nsubs r0, #2\nsubs r0, #1\nbne #-6\nbkpt #0"
	for _, limit := range []int{most - 1, most, most + 1, math.MaxInt} {
		want := api.Outcome{Steps: most}
		if limit < most {
			want = api.Outcome{Steps: most - 1, Err: api.ErrSteps}
		}
		if o := run.Quick(assembled(t, just), nil, nil, limit); !same(o, want) {
			t.Errorf("to %d: %+v, not %+v", limit, o, want)
		}
		want = api.Outcome{Steps: min(limit, most), Err: api.ErrSteps}
		if o := run.Quick(assembled(t, "nop\n"+just), nil, nil, limit); !same(o, want) {
			t.Errorf("one more, to %d: %+v, not %+v", limit, o, want)
		}
	}
	if o := run.Exec(assembled(t, just), nil, nil, most); o.Steps != most || o.Err != api.OK || len(o.Leaks) != most {
		t.Errorf("Exec: %v", short(o))
	}
}

// P8.1: what each step leaks, in a run that loads, draws, stores, and branches, from a zero state on with nothing on the bus.
func TestLeaks(t *testing.T) {
	lines := atSram + atPort + "ldr r3, [r1, #4]\nldr r4, [r2, #0]\neors r3, r4\nstr r3, [r1, #0]\ncmp r3, #3\nbeq #0\nnop\nbkpt #7"
	code := assembled(t, lines)
	leaks := []api.Leak{
		{PC: 0, B: 1, R: 1},
		{PC: 2, A: 1, B: 29, R: sram, Old: 1},
		{PC: 4, B: 1, R: 1},
		{PC: 6, A: 1, B: 30, R: port, Old: 1},
		{PC: 8, A: sram, B: 4, R: 6, Addr: sram + 4, Memory: true},
		{PC: 10, A: port, R: 5, Bus: 6, Addr: port, Memory: true, Random: true},
		{PC: 12, A: 6, B: 5, R: 3, Old: 6, Bus: 5},
		{PC: 14, A: 3, R: 3, Bus: 5, Addr: sram, Memory: true},
		{PC: 16, A: 3, B: 3, Bus: 3},
		{PC: 18, Bus: 3},
		{PC: 22, Bus: 3},
	}
	for k := range leaks {
		leaks[k].Code = code[leaks[k].PC/2]
	}
	both(t, "a run", code, []uint32{8, 6}, []uint32{5}, 100, api.Outcome{Steps: 11, Drawn: 1, Words: []uint32{3, 6}, Leaks: leaks})
	both(t, "a part of it", code, []uint32{8, 6}, []uint32{5}, 7, api.Outcome{Steps: 7, Drawn: 1, Err: api.ErrSteps, Words: []uint32{8, 6}, Leaks: leaks[:7]})
	both(t, "without a tape", code, []uint32{8, 6}, nil, 100, api.Outcome{Steps: 5, Err: api.ErrTape, Words: []uint32{8, 6}, Leaks: leaks[:5]})
}

// P8.1: a run begins with zero registers, no flag set, nothing on the bus, at the code's first halfword.
func TestZeroState(t *testing.T) {
	for line, goes := range map[string]bool{
		"beq": false, "bne": true, "bcs": false, "bcc": true, "bmi": false, "bpl": true, "bvs": false, "bvc": true,
		"bhi": false, "bls": true, "bge": true, "blt": false, "bgt": true, "ble": false,
	} {
		steps := 2
		if !goes {
			steps = 3
		}
		if o := run.Quick(assembled(t, line+" #0\nnop\nbkpt #0"), nil, nil, 9); o.Steps != steps || o.Err != api.OK {
			t.Errorf("%s at first: %+v, not %d steps", line, o, steps)
		}
	}
	for k := range 8 {
		code := assembled(t, "cmp r"+string(rune('0'+k))+", #0\nbkpt #0")
		leaks := []api.Leak{{Code: code[0]}, {PC: 2, Code: code[1]}}
		both(t, "a register at first", code, []uint32{7}, []uint32{8}, 9, api.Outcome{Steps: 2, Words: []uint32{7}, Leaks: leaks})
	}
}

// P8.1: memory has as many words as were handed in, the first 16000 of them.
func TestWords(t *testing.T) {
	for _, n := range []int{0, 1, 2, 15999, 16000, 16001, 20000} {
		words, has := counted(100, n), min(n, 16000)
		both(t, "as they were", assembled(t, "bkpt #0"), words, nil, 9, plain(assembled(t, "bkpt #0"), words, nil, 9))
		if o := run.Quick(assembled(t, "bkpt #0"), words, nil, 9); !slices.Equal(o.Words, words[:has]) {
			t.Errorf("of %d words: %d, or others", n, len(o.Words))
		}
		// r3 is 4 less than how many bytes there are: the last word is there, the one behind it is not.
		code := assembled(t, atSram+"ldr r3, [pc, #0]\nb #2\nnop\nnop\nldr r0, [r1, r3]\nadds r0, #1\nstr r0, [r1, r3]\nadds r3, #4\nldr r0, [r1, r3]\nbkpt #0")
		last := uint32(4*has - 4)
		code[4], code[5] = uint16(last), uint16(last>>16)
		o := run.Quick(code, words, nil, 99)
		if has == 0 {
			if o.Steps != 4 || o.Err != api.ErrFault || len(o.Words) != 0 {
				t.Errorf("of none: %v", short(o))
			}
			continue
		}
		words[has-1]++
		if o.Steps != 8 || o.Err != api.ErrFault || !slices.Equal(o.Words, words[:has]) {
			t.Errorf("of %d words: %v, or the last one is not stored", n, short(o))
		}
	}
}

// P8.1: of the code the first 60000 halfwords count.
func TestLongCode(t *testing.T) {
	for _, n := range []int{59998, 59999, 60000, 60001} {
		code := append(nops(n), 0xbe00)
		want := api.Outcome{Steps: n + 1}
		if n >= 60000 {
			want = api.Outcome{Steps: 60000, Err: api.ErrFault}
		}
		if o := run.Quick(code, nil, nil, most); !same(o, want) {
			t.Errorf("bkpt behind %d: %+v, not %+v", n, o, want)
		}
		if o := run.Exec(code, nil, nil, most); o.Steps != want.Steps || o.Err != want.Err || len(o.Leaks) != want.Steps {
			t.Errorf("bkpt behind %d: %v, not %v", n, short(o), short(want))
		}
	}
}

// P8.1: what is handed in stays as it is, its spare room too, and the answer's lists are memory of their own.
func TestNothingShared(t *testing.T) {
	lines := atSram + atPort + "ldr r0, [r2, #0]\nstr r0, [r1, #0]\nldr r0, [r2, #0]\nstr r0, [r1, #4]\nbkpt #0"
	code, words, tape := append(assembled(t, lines), 1, 2), []uint32{1, 2, 3, 4}, []uint32{5, 6, 7, 8}
	oldCode, oldWords, oldTape := slices.Clone(code), slices.Clone(words), slices.Clone(tape)
	handed := func(way func([]uint16, []uint32, []uint32, int) api.Outcome) api.Outcome {
		return way(code[:len(code)-2], words[:2], tape[:2], 100)
	}
	spoil := func(o api.Outcome) {
		for k, l := 0, o.Words[:cap(o.Words)]; k < len(l); k++ {
			l[k] = 99
		}
		for k, l := 0, o.Leaks[:cap(o.Leaks)]; k < len(l); k++ {
			l[k] = api.Leak{PC: 99}
		}
	}
	for _, way := range []func([]uint16, []uint32, []uint32, int) api.Outcome{run.Exec, run.Quick} {
		first, second := handed(way), handed(way)
		kept := api.Outcome{Steps: first.Steps, Drawn: first.Drawn, Err: first.Err, Words: slices.Clone(first.Words), Leaks: slices.Clone(first.Leaks)}
		if first.Steps != 9 || first.Drawn != 2 || first.Err != api.OK || !slices.Equal(first.Words, []uint32{5, 6}) {
			t.Errorf("%+v", first)
		}
		spoil(first)
		if !slices.Equal(code, oldCode) || !slices.Equal(words, oldWords) || !slices.Equal(tape, oldTape) {
			t.Fatalf("changed: code %x, words %x, tape %x", code, words, tape)
		}
		if !same(second, kept) || !same(handed(way), kept) {
			t.Error("another answer changed with the first one")
		}
		for _, l := range [][]uint32{words, tape} {
			l[0], l[1] = 77, 78
		}
		if !same(second, kept) {
			t.Error("an answer changed with what was handed in")
		}
		copy(words, oldWords)
		copy(tape, oldTape)
	}
}

// P8.2: a road is the same, if both have as many leaks and each one's PC, Code, Addr, Memory and Random are the same; words do not matter.
func TestRoad(t *testing.T) {
	one := api.Leak{PC: 2, Code: 0x6808, A: 1, B: 2, R: 3, Old: 4, Bus: 5, Addr: sram, Memory: true}
	three := func(turn func(l *api.Leak), at int) []api.Leak {
		l := []api.Leak{one, one, one}
		turn(&l[at])
		return l
	}
	base := []api.Leak{one, one, one}
	off := map[string]func(l *api.Leak){
		"PC":     func(l *api.Leak) { l.PC += 2 },
		"Code":   func(l *api.Leak) { l.Code++ },
		"Addr":   func(l *api.Leak) { l.Addr += 4 },
		"Memory": func(l *api.Leak) { l.Memory = false },
		"Random": func(l *api.Leak) { l.Random = true },
	}
	on := map[string]func(l *api.Leak){
		"nothing": func(l *api.Leak) {},
		"A":       func(l *api.Leak) { l.A++ },
		"B":       func(l *api.Leak) { l.B++ },
		"R":       func(l *api.Leak) { l.R++ },
		"Old":     func(l *api.Leak) { l.Old++ },
		"Bus":     func(l *api.Leak) { l.Bus++ },
	}
	for at := range base {
		for part, turn := range off {
			if l := three(turn, at); run.Road(base, l) || run.Road(l, base) {
				t.Errorf("%s of leak %d differs, and the road is called the same", part, at)
			}
		}
		for part, turn := range on {
			if l := three(turn, at); !run.Road(base, l) || !run.Road(l, base) {
				t.Errorf("%s of leak %d differs, and the road is called another one", part, at)
			}
		}
	}
	for n := range 4 {
		for m := range 4 {
			if run.Road(base[:n], base[:m]) != (n == m) {
				t.Errorf("%d leaks and %d: %v", n, m, n != m)
			}
		}
	}
	if !run.Road(nil, nil) || !run.Road(nil, []api.Leak{}) || !run.Road([]api.Leak{}, nil) || run.Road(nil, []api.Leak{{}}) || run.Road([]api.Leak{{}}, nil) {
		t.Error("of no leaks")
	}
}

// P8.2: whole runs: the same code goes one road with other words and another tape; with another branch it does not.
func TestRoadOfRuns(t *testing.T) {
	code := assembled(t, atSram+atPort+"ldr r0, [r2, #0]\nldr r3, [r1, #0]\neors r0, r3\nstr r0, [r1, #0]\nbkpt #0")
	a, b := run.Exec(code, []uint32{1}, []uint32{2}, 99), run.Exec(code, []uint32{77}, []uint32{88}, 99)
	if a.Words[0] == b.Words[0] || !run.Road(a.Leaks, b.Leaks) {
		t.Error("other words are another road")
	}
	code = assembled(t, atSram+"ldr r0, [r1, #0]\ncmp r0, #1\nbeq #0\nnop\nbkpt #0")
	a, b = run.Exec(code, []uint32{1}, nil, 99), run.Exec(code, []uint32{2}, nil, 99)
	if run.Road(a.Leaks, b.Leaks) || run.Road(a.Leaks, run.Exec(code, []uint32{1}, nil, 4).Leaks) {
		t.Error("another branch, or a part, is the same road")
	}
}

// at is a leak of the instruction that the text is of, at pc.
func at(t *testing.T, pc uint32, line string) api.Leak {
	t.Helper()
	code := assembled(t, line)
	return api.Leak{PC: pc, Code: code[0], Memory: strings.HasPrefix(line, "ldr") || strings.HasPrefix(line, "str")}
}

// P8.2: 2 cycles of each load and store; 3 of each branch that goes elsewhere, 1 of one that goes on, or that is the last; 1 of all others.
func TestCycles(t *testing.T) {
	nop := "nop"
	for _, x := range []struct {
		line         string
		next         uint32
		ahead, alone int
	}{
		{"movs r0, #1", 102, 1, 1}, {"cmp r0, #1", 102, 1, 1}, {"adds r0, #1", 102, 1, 1}, {"lsls r0, r1, #3", 102, 1, 1},
		{"adds r0, r1, r2", 102, 1, 1}, {"subs r0, r1, #7", 102, 1, 1}, {"muls r0, r1", 102, 1, 1}, {"nop", 102, 1, 1}, {"bkpt #0", 102, 1, 1},
		{"ldr r0, [r1, #0]", 102, 2, 2}, {"ldr r0, [r1, r2]", 102, 2, 2}, {"ldr r0, [pc, #8]", 102, 2, 2}, {"str r0, [r1, #4]", 102, 2, 2}, {"str r0, [r1, r2]", 102, 2, 2},
		{"b #0", 104, 3, 1}, {"b #-4", 100, 3, 1}, {"b #-6", 98, 3, 1}, {"b #2046", 2150, 3, 1}, {"b #-2", 102, 1, 1},
		{"beq #0", 104, 3, 1}, {"beq #0", 102, 1, 1}, {"ble #-8", 96, 3, 1}, {"ble #-8", 102, 1, 1}, {"bne #-2", 102, 1, 1}, {"bvs #-6", 98, 3, 1},
		// Only a branch goes elsewhere: where the one behind another instruction was is of no account.
		{"nop", 200, 1, 1}, {"bkpt #0", 100, 1, 1}, {"ldr r0, [r1, #0]", 100, 2, 2}, {"?b500", 200, 1, 1}, {"?de00", 200, 1, 1}, {"?df00", 200, 1, 1}, {"?e800", 200, 1, 1},
	} {
		l := at(t, 100, x.line)
		if n := run.Cycles([]api.Leak{l}); n != x.alone {
			t.Errorf("%q as the last one: %d, not %d", x.line, n, x.alone)
		}
		if n := run.Cycles([]api.Leak{l, at(t, x.next, nop)}); n != x.ahead+1 {
			t.Errorf("%q ahead of %d: %d, not %d and 1", x.line, x.next, n, x.ahead)
		}
		if n := run.Cycles([]api.Leak{at(t, 98, nop), l, at(t, x.next, "ldr r0, [r1, #0]"), at(t, x.next+2, "b #0")}); n != x.ahead+4 {
			t.Errorf("%q in the midst, ahead of %d: %d, not %d and 4", x.line, x.next, n, x.ahead)
		}
	}
	if run.Cycles(nil) != 0 || run.Cycles([]api.Leak{}) != 0 || run.Cycles([]api.Leak{{}}) != 1 || run.Cycles(make([]api.Leak, 7)) != 7 {
		t.Error("of none, or of zero leaks")
	}
	// PC goes round at its end.
	if n := run.Cycles([]api.Leak{at(t, 0xfffffffe, "b #0"), at(t, 0, nop)}); n != 2 {
		t.Errorf("a branch to behind the last address: %d", n)
	}
}

// P8.2: the cycles of whole runs.
func TestCyclesOfRuns(t *testing.T) {
	for _, x := range []struct {
		lines  string
		limit  int
		cycles int
	}{
		{"bkpt #0", 9, 1},
		{"movs r0, #1\nbkpt #0", 9, 2},
		{"b #0\nnop\nbkpt #0", 9, 4},
		{"b #-2\nbkpt #0", 9, 2},
		{"b #-4", 5, 13},
		{"movs r0, #3\nsubs r0, #1\nbne #-6\nbkpt #0", 99, 12},
		{atSram + "str r0, [r1, #0]\nldr r0, [r1, #0]\nbkpt #0", 99, 7},
	} {
		if n := run.Cycles(run.Exec(assembled(t, x.lines), []uint32{0}, nil, x.limit).Leaks); n != x.cycles {
			t.Errorf("%q: %d cycles, not %d", x.lines, n, x.cycles)
		}
	}
}

// P8.3: with a greater limit a run that came to its end is the same, and one that did not goes on from there.
func TestLonger(t *testing.T) {
	loop := comes{what: "a loop", lines: atSram + atPort + "ldr r0, [r2, #0]\nstr r0, [r1, #0]\nb #-8", words: []uint32{1}, tape: counted(50, 9)}
	for _, x := range append(runs(), loop) {
		code := assembled(t, x.lines)
		for lesser := range 20 {
			a := run.Exec(code, x.words, x.tape, lesser)
			for greater := lesser; greater < 40; greater++ {
				b := run.Exec(code, x.words, x.tape, greater)
				if a.Err != api.ErrSteps && !same(a, b) {
					t.Errorf("%s: it came to its end within %d, and is another one within %d", x.what, lesser, greater)
				}
				if b.Steps < a.Steps || b.Drawn < a.Drawn || !slices.Equal(b.Leaks[:a.Steps], a.Leaks) {
					t.Errorf("%s: within %d it does not begin as within %d", x.what, greater, lesser)
				}
				if a.Err == api.ErrSteps && a.Steps != lesser {
					t.Errorf("%s: it stopped at %d of %d", x.what, a.Steps, lesser)
				}
			}
		}
	}
}

// P8.3: it goes on from just the memory and the draws with which it was stopped: what is stored and drawn behind the limit is not yet there at it.
func TestGoesOn(t *testing.T) {
	code := assembled(t, atSram+atPort+"ldr r0, [r2, #0]\nstr r0, [r1, #0]\nldr r0, [r2, #0]\nstr r0, [r1, #4]\nbkpt #0")
	for limit, want := range []api.Outcome{
		4:  {Words: []uint32{1, 2}},
		5:  {Drawn: 1, Words: []uint32{1, 2}},
		6:  {Drawn: 1, Words: []uint32{8, 2}},
		7:  {Drawn: 2, Words: []uint32{8, 2}},
		8:  {Drawn: 2, Words: []uint32{8, 9}},
		9:  {Drawn: 2, Words: []uint32{8, 9}},
		10: {Drawn: 2, Words: []uint32{8, 9}},
	} {
		if want.Words == nil {
			continue
		}
		want.Steps, want.Err = min(limit, 9), api.OK
		if limit < 9 {
			want.Err = api.ErrSteps
		}
		if o := run.Quick(code, []uint32{1, 2}, []uint32{8, 9}, limit); !same(o, want) {
			t.Errorf("to %d: %+v, not %+v", limit, o, want)
		}
	}
}
