package flow_test

import (
	"fmt"
	"math/big"
	"math/rand"
	"slices"
	"strings"
	"testing"

	"bauta/api"
	"bauta/flow"
	"bauta/names"
	"bauta/show"
)

// thing is a word: the secret inputs that it is said to be made of, its value, and of a loop's variable its number.
type thing struct {
	from   []string
	value  uint32
	number *big.Int
}

// fault is where something is wrong, and the error.
type fault struct {
	at  int
	err api.Errno
}

// account is an account of its own of what Check tells, with the words of a run.
type account struct {
	frames        []map[string]thing // the innermost last
	functions     map[string]api.Node
	inputs        func(secret bool) uint32
	rounds, nodes int
	labels        []api.Label
	values        []uint32
}

// plain is that account of n, in which names are right.
func plain(n api.Node, inputs func(secret bool) uint32) (*account, *fault) {
	c := &account{frames: []map[string]thing{{}}, functions: map[string]api.Node{}, inputs: inputs}
	each(&n, func(part *api.Node) {
		if part.K == 12 {
			c.functions[part.S] = *part
		}
	})
	return c, c.run(n.L)
}

// frame is the innermost one that has s, or else the innermost of all.
func (c *account) frame(s string) map[string]thing {
	for _, f := range slices.Backward(c.frames) {
		if _, is := f[s]; is {
			return f
		}
	}
	return c.frames[len(c.frames)-1]
}

func (c *account) run(l []api.Node) *fault {
	for _, n := range l {
		if f := c.statement(n); f != nil {
			return f
		}
	}
	return nil
}

func (c *account) statement(n api.Node) *fault {
	switch n.K {
	case 6, 7:
		for _, s := range n.P {
			x := thing{value: c.inputs(n.K == 6)}
			if n.K == 6 {
				x.from = []string{s}
			}
			c.frame(s)[s] = x
		}
	case 8, 9, 10:
		x, f := c.word(n.L[0], 0)
		switch {
		case f != nil:
			return f
		case n.K == 10:
			c.frame(n.S)[n.S] = x
			return nil
		case n.K == 9 && len(x.from) > 0:
			return &fault{n.At, 130}
		}
		c.labels = append(c.labels, api.Label{Name: n.S, Secret: len(x.from) > 0, Shown: n.K == 9})
		c.values = append(c.values, x.value)
	case 11:
		return c.loop(n)
	}
	return nil
}

func (c *account) loop(n api.Node) *fault {
	for _, bound := range n.L[:2] {
		if f := c.amount(bound); f != nil {
			return f
		}
	}
	last := c.fixed(n.L[1])
	for i := c.fixed(n.L[0]); i.Cmp(last) < 0; i = new(big.Int).Add(i, big.NewInt(1)) {
		if c.rounds++; c.rounds == 2001 {
			return &fault{n.At, 150}
		}
		c.frames = append(c.frames, map[string]thing{n.S: {value: uint32(i.Uint64()), number: i}})
		if f := c.run(n.L[2:]); f != nil {
			return f
		}
		c.frames = c.frames[:len(c.frames)-1]
	}
	return nil
}

// flat is n and all nodes below it, each ahead of its parts.
func flat(n api.Node) []api.Node {
	var l []api.Node
	each(&n, func(part *api.Node) { l = append(l, *part) })
	return l
}

// amount is what is wrong with n as a constant.
func (c *account) amount(n api.Node) *fault {
	for _, part := range flat(n) {
		x := c.frame(part.S)[part.S]
		switch {
		case part.K == 1 && len(x.from) > 0:
			return &fault{part.At, 130}
		case part.K == 1 && x.number == nil || part.K > 4:
			return &fault{part.At, 120}
		}
	}
	return nil
}

// mod is a modulo 2^32.
func mod(a *big.Int) *big.Int {
	return a.Mod(a, new(big.Int).Lsh(big.NewInt(1), 32))
}

// fixed is the number of a constant.
func (c *account) fixed(n api.Node) *big.Int {
	switch n.K {
	case 0:
		return new(big.Int).SetUint64(uint64(n.N))
	case 1:
		return c.frame(n.S)[n.S].number
	case 2:
		a := c.fixed(n.L[0])
		if n.S == "~" {
			return mod(new(big.Int).Not(a))
		}
		return mod(new(big.Int).Neg(a))
	}
	return both(n.S, c.fixed(n.L[0]), c.fixed(n.L[1]))
}

// both is what a sign makes of two numbers.
func both(sign string, a, b *big.Int) *big.Int {
	z := new(big.Int)
	far := b.Cmp(big.NewInt(31)) > 0
	switch sign {
	case "+":
		return mod(z.Add(a, b))
	case "-":
		return mod(z.Sub(a, b))
	case "&":
		return z.And(a, b)
	case "|":
		return z.Or(a, b)
	case "^":
		return z.Xor(a, b)
	case "<<<":
		for range new(big.Int).Mod(b, big.NewInt(32)).Uint64() {
			a = new(big.Int).Lsh(a, 1)
			a = mod(new(big.Int).Or(a, new(big.Int).Rsh(a, 32)))
		}
		return a
	case "<<":
		if !far {
			return mod(z.Lsh(a, uint(b.Uint64())))
		}
	case ">>":
		if !far {
			return z.Rsh(a, uint(b.Uint64()))
		}
	}
	return z
}

// word is the word of an expression that lies in so many calls.
func (c *account) word(n api.Node, deep int) (x thing, f *fault) {
	c.nodes++
	many := len(n.L)
	switch n.K {
	case 0:
		return thing{value: n.N}, nil
	case 1:
		x := c.frame(n.S)[n.S]
		return thing{from: x.from, value: x.value}, nil
	case 4:
		many = 1
		f = c.amount(n.L[1])
	case 5:
		deep++
		if deep > 61 || c.nodes > 20000 {
			f = &fault{n.At, 150}
		}
	}
	var l []thing
	for k := 0; f == nil && k < many; k++ {
		var part thing
		part, f = c.word(n.L[k], deep)
		l = append(l, part)
	}
	if f != nil {
		return thing{}, f
	}
	return c.made(n, l, deep)
}

// made is what a node makes of its parts.
func (c *account) made(n api.Node, l []thing, deep int) (x thing, f *fault) {
	if n.K == 5 && n.S != "sel" {
		ahead := c.frames
		c.frames = []map[string]thing{{}}
		for k, s := range c.functions[n.S].P {
			c.frames[0][s] = l[k]
		}
		x, f = c.word(c.functions[n.S].L[0], deep)
		c.frames = ahead
		return x, f
	}
	for _, part := range l {
		x.from = append(slices.Clone(x.from), part.from...)
	}
	slices.Sort(x.from)
	x.from = slices.Compact(x.from)
	a := new(big.Int).SetUint64(uint64(l[0].value))
	switch n.K {
	case 2:
		x.value = -l[0].value
		if n.S == "~" {
			x.value--
		}
	case 3:
		x.value = uint32(both(n.S, a, new(big.Int).SetUint64(uint64(l[1].value))).Uint64())
	case 4:
		x.value = uint32(both(n.S, a, c.fixed(n.L[1])).Uint64())
	case 5:
		x.value = l[2].value ^ l[0].value&(l[1].value^l[2].value)
	}
	return x, nil
}

// held looks that Check tells of n what the plain account tells; what it told.
func held(t *testing.T, n api.Node) api.Errno {
	t.Helper()
	if _, at, err := names.Check(n); err != api.OK {
		checks(t, n, nil, at, err)
		return err
	}
	c, f := plain(n, func(bool) uint32 { return 0 })
	if f != nil {
		checks(t, n, nil, f.at, f.err)
		return f.err
	}
	checks(t, n, c.labels, 0, api.OK)
	return api.OK
}

// hang looks that an output of n that isn't secret hangs on no secret, and that there are some that do; how many of them.
func hang(t *testing.T, r *rand.Rand, n api.Node) int {
	t.Helper()
	var all [8]*account
	for k := range all {
		publics, seeds := rand.New(rand.NewSource(4)), rand.New(rand.NewSource(r.Int63()))
		c, f := plain(n, func(secret bool) uint32 {
			if secret {
				return seeds.Uint32()
			}
			return publics.Uint32()
		})
		if f != nil {
			return 0
		}
		all[k] = c
	}
	labels, _, _ := flow.Check(n)
	some := 0
	for k, label := range labels {
		differs := slices.ContainsFunc(all[1:], func(c *account) bool { return c.values[k] != all[0].values[k] })
		if differs && !label.Secret {
			t.Errorf("the output %s of %s isn't told to be secret", label.Name, tell(n))
		}
		if differs {
			some++
		}
	}
	return some
}

// maker makes programs in which names are right.
type maker struct {
	*rand.Rand
	words     []string // inputs and variables
	loops     []string
	functions map[string]int // with how many parameters
	outs      int
	wild      float64 // how often an amount is any expression
}

// of is one of l.
func of[T any](m *maker, l ...T) T { return l[m.Intn(len(l))] }

// fresh is one of l that is no name yet; "", if it found none.
func (m *maker) fresh(l ...string) string {
	s := of(m, l...)
	_, is := m.functions[s]
	if is || slices.Contains(m.words, s) || slices.Contains(m.loops, s) {
		return ""
	}
	return s
}

func (m *maker) leaf() api.Node {
	if all := append(slices.Clone(m.words), m.loops...); len(all) > 0 && m.Intn(5) > 0 {
		return name(of(m, all...))
	}
	return num(m.number())
}

func (m *maker) number() uint32 {
	return of(m, 0, 1, 2, 3, uint32(m.Intn(40)), m.Uint32(), 1<<31, 1<<32-1)
}

// fixed is a constant of about so many nodes, or else, now and then, any expression.
func (m *maker) fixed(room int) api.Node {
	if m.Float64() < m.wild {
		return m.expr(room)
	}
	left := m.Intn(room + 1)
	switch k := m.Intn(9); {
	case room < 2 || k < 3:
		if len(m.loops) > 0 && m.Intn(2) == 0 {
			return name(of(m, m.loops...))
		}
		return num(m.number())
	case k == 3:
		return un(of(m, "~", "-"), m.fixed(room-1))
	case k < 7:
		return bin(of(m, "+", "-", "&", "|", "^"), m.fixed(left), m.fixed(room-left))
	}
	return shift(of(m, "<<", ">>", "<<<"), m.fixed(left), m.fixed(room-left))
}

// expr is any expression of about so many nodes.
func (m *maker) expr(room int) api.Node {
	if room <= 1 {
		return m.leaf()
	}
	left := m.Intn(room)
	switch m.Intn(7) {
	case 0:
		return un(of(m, "~", "-"), m.expr(room-1))
	case 1, 2:
		f := of(m, "f", "g", "h", "fa", "ga", "ha", "sel")
		many, is := m.functions[f]
		if !is {
			f, many = "sel", 3
		}
		n := call(f)
		for range many {
			n.L = append(n.L, m.expr(room/many))
		}
		return n
	case 3:
		return shift(of(m, "<<", ">>", "<<<"), m.expr(room-1-left/4), m.fixed(left/4))
	}
	return bin(of(m, "+", "-", "&", "|", "^"), m.expr(left), m.expr(room-1-left))
}

func (m *maker) function(room int) (api.Node, bool) {
	s := m.fresh("f", "g", "h", "fa", "ga", "ha")
	if s == "" {
		return api.Node{}, false
	}
	var p []string
	for range 1 + m.Intn(3) {
		if x := of(m, "x", "y", "a", "b", "i", "t", "p"); !slices.Contains(p, x) {
			p = append(p, x)
		}
	}
	inner := *m
	inner.words, inner.loops = p, nil
	n := function(s, inner.expr(room), p...)
	m.functions[s] = len(p)
	return n, true
}

// loop has few rounds most often.
func (m *maker) loop(room int) (api.Node, bool) {
	s := m.fresh("i", "j", "k", "t")
	if s == "" {
		return api.Node{}, false
	}
	n := loop(s, uint32(m.Intn(4)))
	switch m.Intn(12) {
	case 0:
		n.L[0] = m.fixed(3)
		n.L[1] = bin("+", n.L[0], bin("&", m.fixed(3), num(3)))
	case 1:
		from := m.number()
		n.L[0], n.L[1] = num(from), num(from+uint32(m.Intn(4)))
	case 2:
		if len(m.loops) > 0 {
			n.L[0], n.L[1] = name(of(m, m.loops...)), name(of(m, m.loops...))
		}
	case 3:
		if m.Intn(20) == 0 {
			n.L[1] = num(uint32(1990 + m.Intn(20)))
		}
	case 4:
		if m.Intn(5) == 0 {
			n.L[m.Intn(2)] = m.fixed(3)
		}
	}
	words, loops := m.words, m.loops
	m.words, m.loops = slices.Clone(words), append(slices.Clone(loops), s)
	n.L = append(n.L, m.statements(m.Intn(5), room/2, true)...)
	m.words, m.loops = words, loops
	return n, true
}

func (m *maker) statement(room int, inner bool) (n api.Node, is bool) {
	k := m.Intn(12)
	if inner {
		k = m.Intn(6)
	}
	switch {
	case k < 4:
		s := of(m, "t", "u", "v", "w", "i", "x")
		if slices.Contains(m.loops, s) {
			return api.Node{}, false
		}
		n = let(s, m.expr(room))
		if !slices.Contains(m.words, s) {
			m.words = append(m.words, s)
		}
		return n, true
	case k < 6:
		return m.loop(room)
	case k == 6:
		s := m.fresh("a", "b", "c", "p", "q", "x")
		if s == "" {
			return api.Node{}, false
		}
		// A variable that is called so later would be an input.
		if s != "x" {
			m.words = append(m.words, s)
			return of(m, secret, public)(s), true
		}
		return m.statement(room, inner)
	case k < 9:
		m.outs++
		return of(m, out, out, out, out, shown)(fmt.Sprint("o", m.outs), m.expr(room)), true
	}
	return m.function(room)
}

// statements are so many, if it finds names for them.
func (m *maker) statements(many, room int, inner bool) []api.Node {
	var l []api.Node
	for range many {
		if n, is := m.statement(1+m.Intn(room+1), inner); is {
			l = append(l, n)
		}
	}
	return l
}

// P13.1 to P13.5: any programs, as trees and as texts, with what ends them.
func TestAnyPrograms(t *testing.T) {
	r := rand.New(rand.NewSource(13))
	told, texts, differ := map[api.Errno]int{}, 0, 0
	for k := range 6000 {
		m := &maker{Rand: r, words: []string{"s", "z"}, functions: map[string]int{"sel": 3}, wild: []float64{0, 0.01, 0.3}[k%3]}
		n := placed(program(append([]api.Node{secret("s"), public("z")}, m.statements(3+k%25, 2+k%14, false)...)...))
		err := held(t, n)
		told[err]++
		if err == api.OK {
			differ += hang(t, r, n)
		}
		s, shows := show.Program(n)
		if shows != api.OK {
			continue
		}
		texts++
		again := tree(t, s)
		held(t, again)
		unsecret(t, s, again)
	}
	if told[api.OK] < 2000 || told[api.ErrType] < 300 || told[api.ErrFlow] < 300 || told[api.ErrResource] < 20 || texts < 5000 || differ < 1000 {
		t.Errorf("just %v, %d texts, %d outputs that hang on secrets", told, texts, differ)
	}
}

// unsecret looks what comes of a program with no secret inputs.
func unsecret(t *testing.T, s string, n api.Node) {
	t.Helper()
	none := strings.ReplaceAll(s, "secret ", "public ")
	labels, at, err := flow.Check(n)
	open, all, place, e := flow.Program(none)
	if e == api.ErrFlow || slices.ContainsFunc(all.Outs, func(l api.Label) bool { return l.Secret }) {
		t.Errorf("Program(%.300q): %s, %d, %v", none, tell(all), place, e)
	}
	switch {
	case err == api.OK:
		for k := range labels {
			labels[k].Secret = false
		}
		checks(t, open, labels, 0, api.OK)
	case err == api.ErrFlow && !slices.ContainsFunc(n.L, func(part api.Node) bool { return part.K == 9 && part.At == at }):
		refused(t, none, at, api.ErrType)
	case err != api.ErrFlow:
		refused(t, none, at, err)
	}
}

// P13.2, P13.3: any two and three small statements, in each order, alone and in loops.
func TestSmallPrograms(t *testing.T) {
	a, x, i, one := name("a"), name("x"), name("i"), num(1)
	few := []api.Node{
		secret("a"), public("a"), let("x", one), let("x", a), let("x", x), let("y", x), let("x", name("y")), out("o", x), shown("o", x), out("q", call("f", x)), let("y", shift("<<", a, x)), let("x", shift(">>", x, i)), let("x", call("f", a)),
		loop("i", 2, let("x", a)), loop("i", 0, let("x", a)), loop("i", 2, let("y", x), let("x", a)), loop("x", 2), loop("i", 2, let("x", shift("<<", x, i))), loop("j", 2, let("x", call("f", x))), loop("i", 1001), {K: 11, S: "j", L: []api.Node{i, num(3), let("x", i)}}, {K: 11, S: "i", L: []api.Node{one, x}},
	}
	ahead := [][]api.Node{{function("f", name("x"), "x"), secret("a")}, {function("f", shift("<<", one, name("x")), "x"), secret("a"), let("x", one), let("y", one)}, {function("f", one, "x"), let("y", one), let("x", one), public("a")}}
	told := map[api.Errno]int{}
	for _, l := range ahead {
		for _, x := range few {
			for _, y := range few {
				for _, z := range few {
					for _, n := range [][]api.Node{{x, y, z}, {loop("k", 2, x, y), z}, {loop("i", 2, x, y, z)}, {x, loop("i", 2, y, loop("k", 2, z))}} {
						n := placed(program(slices.Concat(l, n, []api.Node{out("end", name("a"))})...))
						if _, _, err := names.Check(n); err == api.OK {
							told[held(t, n)]++
						}
					}
				}
			}
		}
	}
	if told[api.OK] < 10000 || told[api.ErrType] < 1000 || told[api.ErrFlow] < 3000 || told[api.ErrResource] < 500 {
		t.Errorf("just %v", told)
	}
}

// P13.3: any functions that call those ahead of them, deep and often.
func TestAnyCalls(t *testing.T) {
	r := rand.New(rand.NewSource(131))
	told := map[api.Errno]int{}
	for k := range 1500 {
		wide := 1 + r.Float64()/4
		l := []api.Node{secret("a"), function("f0", name("x"), "x")}
		for k := range 1 + r.Intn(80) {
			body := name("x")
			for range 1 + int(r.ExpFloat64()*(wide-1)*3) {
				callee := call(fmt.Sprint("f", max(0, k-r.Intn(2))), body)
				switch r.Intn(8) {
				case 0:
					callee = bin("+", callee, body)
				case 1:
					callee = call("sel", num(1), callee, name("x"))
				case 2:
					callee = un("~", shift("<<", callee, bin("+", num(2), num(1))))
				}
				body = callee
			}
			if r.Intn(200) == 0 {
				body = shift("<<", body, of(&maker{Rand: r}, body, name("x")))
			}
			l = append(l, function(fmt.Sprint("f", k+1), body, "x"))
		}
		last := call(l[len(l)-1].S, of(&maker{Rand: r}, name("a"), num(1)))
		err := held(t, placed(program(append(l, loop("i", uint32(1+k%40*k%40), let("y", last)), out("o", last))...)))
		told[err]++
	}
	if told[api.OK] < 300 || told[api.ErrFlow] < 20 || told[api.ErrType] < 20 || told[api.ErrResource] < 200 {
		t.Errorf("just %v", told)
	}
}
