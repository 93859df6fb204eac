package circ_test

import (
	"fmt"
	"math/rand"
	"slices"
	"strings"
	"testing"

	"bauta/api"
	"bauta/flow"
)

// account is an account of its own of what Build tells, written as the tests here write circuits, as the program's loops are written out.
type account struct {
	functions        map[string]api.Node
	known            map[string]int
	gates, outs      []string
	secrets, publics int
}

// plain is that account of n, of which flow tells no error.
func plain(t *testing.T, n api.Node) (api.Circuit, int, api.Errno) {
	t.Helper()
	c := &account{functions: map[string]api.Node{}, known: map[string]int{}}
	for _, part := range flat(n) {
		if part.K == 12 {
			c.functions[part.S] = part
		}
	}
	for _, part := range straight(n.L) {
		c.statement(part)
		if len(c.gates) > 1000 {
			return api.Circuit{}, part.At, 150
		}
	}
	return circuit(t, strings.Join(append(c.gates, c.outs...), " ")), 0, api.OK
}

// flat is n and all nodes below it.
func flat(n api.Node) []api.Node {
	l := []api.Node{n}
	for _, part := range n.L {
		l = append(l, flat(part)...)
	}
	return l
}

// fixed is the number of a constant in which there are no names.
func fixed(n api.Node) uint32 {
	var l []uint32
	for _, part := range n.L {
		l = append(l, fixed(part))
	}
	switch {
	case n.K == 0:
		return n.N
	case n.K == 2 && n.S == "~":
		return 1<<32 - 1 - l[0]
	case n.K == 2:
		return 0 - l[0]
	}
	a, b := uint64(l[0]), uint64(l[1])
	switch n.S {
	case "+":
		a += b
	case "-":
		a -= b
	case "&":
		a &= b
	case "|":
		a |= b
	case "^":
		a ^= b
	case "<<":
		a <<= b
	case ">>":
		a >>= b
	case "<<<":
		a = a<<(b%32) | a>>(32-b%32)
	}
	return uint32(a)
}

// straight is the statements as they are run, without loops, and with the numbers of loops' names.
func straight(l []api.Node) []api.Node {
	var all []api.Node
	for _, n := range l {
		if n.K != 11 {
			all = append(all, n)
			continue
		}
		for i := fixed(n.L[0]); i < fixed(n.L[1]); i++ {
			for _, part := range n.L[2:] {
				all = append(all, straight([]api.Node{put(part, n.S, i)})...)
			}
		}
	}
	return all
}

// put is n with a number for a name. A function's names are its own.
func put(n api.Node, s string, number uint32) api.Node {
	switch {
	case n.K == 12:
		return n
	case n.K == 1 && n.S == s:
		return api.Node{N: number}
	}
	n.L = slices.Clone(n.L)
	for k := range n.L {
		n.L[k] = put(n.L[k], s, number)
	}
	return n
}

// gate makes one of these parts: secret, if one of the gates that it takes is.
func (c *account) gate(s string, taken ...int) int {
	star := ""
	for _, k := range taken {
		if strings.HasSuffix(c.gates[k], "*") {
			star = "*"
		}
	}
	c.gates = append(c.gates, s+star)
	return len(c.gates) - 1
}

func (c *account) statement(n api.Node) {
	switch n.K {
	case 6:
		for _, s := range n.P {
			c.known[s] = c.gate(fmt.Sprintf("s%d*", c.secrets))
			c.secrets++
		}
	case 7:
		for _, s := range n.P {
			c.known[s] = c.gate(fmt.Sprintf("p%d", c.publics))
			c.publics++
		}
	case 8, 9:
		c.outs = append(c.outs, fmt.Sprintf("%s=%d", n.S, c.expr(n.L[0], c.known)))
	case 10:
		c.known[n.S] = c.expr(n.L[0], c.known)
	}
}

func (c *account) expr(n api.Node, known map[string]int) int {
	if n.K == 4 {
		return c.moved(n.S, c.expr(n.L[0], known), fixed(n.L[1]))
	}
	var l []int
	for _, part := range n.L {
		l = append(l, c.expr(part, known))
	}
	switch {
	case n.K == 0:
		return c.gate(fmt.Sprintf("#%d", n.N))
	case n.K == 1:
		return known[n.S]
	case n.K == 2 && n.S == "~":
		return c.gate(fmt.Sprintf("~%d", l[0]), l[0])
	case n.K == 2:
		return c.both("-", c.gate("#0"), l[0])
	case n.K == 3:
		return c.both(n.S, l[0], l[1])
	case n.S == "sel":
		return c.both("^", l[2], c.both("&", l[0], c.both("^", l[1], l[2])))
	}
	params := map[string]int{}
	for k, s := range c.functions[n.S].P {
		params[s] = l[k]
	}
	return c.expr(c.functions[n.S].L[0], params)
}

func (c *account) both(sign string, a, b int) int {
	return c.gate(fmt.Sprintf("%d%s%d", a, sign, b), a, b)
}

func (c *account) moved(sign string, a int, by uint32) int {
	if sign == "<<<" {
		by %= 32
	}
	if by > 31 {
		return c.gate("#0")
	}
	return c.gate(fmt.Sprintf("%d%s%d", a, sign, by), a)
}

// ownError stands here for ErrResource where flow tells no error.
const ownError api.Errno = -api.ErrResource

// held looks that Build tells of n what the plain account tells, or flow's error; what it told.
func held(t *testing.T, n api.Node) (api.Circuit, api.Errno) {
	t.Helper()
	labels, at, err := flow.Check(n)
	if err != api.OK {
		built(t, n, api.Circuit{}, at, err)
		return api.Circuit{}, err
	}
	want, at, err := plain(t, n)
	built(t, n, want, at, err)
	if err != api.OK {
		return api.Circuit{}, ownError
	}
	for k, label := range labels {
		if want.Outs[k].Name != label.Name || want.Gates[want.Outs[k].At].Secret && !label.Secret {
			t.Errorf("%+v of %s is %+v", label, tell(n), want.Outs[k])
		}
	}
	return want, api.OK
}

// maker makes texts of programs in which names are right.
type maker struct {
	*rand.Rand
	words, publics, loops []string // words are inputs and variables, publics those of them that are no secret
	functions             []callee
	fresh                 int     // names that were made
	wild                  float64 // how often an amount is any expression
}

// callee is a function's name, and with how many parts it is called.
type callee struct {
	s     string
	parts int
}

// of is one of l.
func of[T any](m *maker, l ...T) T { return l[m.Intn(len(l))] }

// new is a name that there is not yet.
func (m *maker) new(s string) string {
	m.fresh++
	return fmt.Sprint(s, m.fresh)
}

func (m *maker) number() string {
	return of(m, "0", "1", "2", "3", "31", "32", "33", "0xffffffff", "0x80000000", fmt.Sprint(m.Uint32()), fmt.Sprintf("0x%x", m.Uint32()), fmt.Sprint(m.Intn(40)))
}

func (m *maker) leaf(l []string) string {
	if len(l) > 0 && m.Intn(5) > 0 {
		return of(m, l...)
	}
	return m.number()
}

// fixed is a constant of about so many nodes; now and then any expression.
func (m *maker) fixed(room int) string {
	if m.Float64() < m.wild {
		return "(" + m.expr(room, m.words) + ")"
	}
	left := m.Intn(room + 1)
	switch k := m.Intn(8); {
	case room < 2 || k < 3:
		return m.leaf(m.loops)
	case k == 3:
		return of(m, "~", "-") + m.fixed(room-1)
	}
	return "(" + m.fixed(left) + of(m, "+", "-", "&", "|", "^", "<<", ">>", "<<<") + m.fixed(room-left) + ")"
}

// expr is an expression of those names, of about so many nodes.
func (m *maker) expr(room int, l []string) string {
	if room <= 1 {
		return m.leaf(append(slices.Clone(l), m.loops...))
	}
	left := m.Intn(room)
	switch k := m.Intn(8); {
	case k == 0:
		return of(m, "~", "-") + "(" + m.expr(room-1, l) + ")"
	case k < 3:
		f := of(m, m.functions...)
		parts := make([]string, f.parts)
		for k := range parts {
			parts[k] = m.expr(room/f.parts, l)
		}
		return f.s + "(" + strings.Join(parts, ",") + ")"
	case k == 3:
		return "(" + m.expr(room-1-left/4, l) + ")" + of(m, "<<", ">>", "<<<") + m.fixed(left/4)
	}
	return "(" + m.expr(left, l) + ")" + of(m, "+", "-", "&", "|", "^") + "(" + m.expr(room-1-left, l) + ")"
}

// statement is one that may stand in a loop, if it is told to be inner.
func (m *maker) statement(room int, inner bool) string {
	k := m.Intn(12)
	if inner {
		k = m.Intn(6)
	}
	switch {
	case k < 4:
		s := of(m, "t", "u", "v", "w")
		text := s + "=" + m.expr(room, m.words) + ";"
		if !slices.Contains(m.words, s) {
			m.words = append(m.words, s)
		}
		return text
	case k < 6:
		return m.loop(room)
	case k == 6:
		return m.inputs(of(m, "secret", "public"))
	case k == 7:
		return "show " + m.new("o") + "=" + m.expr(room, m.publics) + ";"
	case k < 10:
		return "out " + m.new("o") + "=" + m.expr(room, m.words) + ";"
	}
	return m.function(room)
}

func (m *maker) inputs(word string) string {
	var l []string
	for range 1 + m.Intn(3) {
		l = append(l, m.new("a"))
	}
	m.words = append(m.words, l...)
	if word == "public" {
		m.publics = append(m.publics, l...)
	}
	return word + " " + strings.Join(l, ",") + ";"
}

func (m *maker) function(room int) string {
	p := []string{of(m, "x", "t", "a1"), of(m, "y", "u", "i"), of(m, "z", "w")}[:1+m.Intn(3)]
	inner := *m
	inner.words, inner.loops = p, nil
	s := m.new("f")
	text := "fn " + s + "(" + strings.Join(p, ",") + ")=" + inner.expr(room, p) + ";"
	m.functions = append(m.functions, callee{s, len(p)})
	return text
}

// loop has few rounds most often.
func (m *maker) loop(room int) string {
	s := m.new("i")
	from := m.number()
	ends := of(m, "0.."+fmt.Sprint(m.Intn(4)), "2..5", from+".."+from+"+"+fmt.Sprint(m.Intn(4)), m.fixed(2)+"&3.."+m.fixed(2)+"&3")
	switch m.Intn(15) {
	case 0:
		ends = m.fixed(3) + ".." + m.fixed(3)
	case 1:
		ends = "0.." + fmt.Sprint(m.Intn(300))
	}
	ahead, loops := slices.Clone(m.words), m.loops
	m.loops = append(slices.Clone(loops), s)
	text := "for " + s + " in " + ends + "{"
	for range m.Intn(4) {
		text += m.statement(room/2, true)
	}
	m.words, m.loops = ahead, loops
	return text + "}"
}

func (m *maker) program(many, room int) string {
	s := "secret s;public z;"
	m.words, m.publics, m.loops, m.functions, m.fresh = []string{"s", "z"}, []string{"z"}, nil, []callee{{"sel", 3}}, 0
	for range many {
		s += m.statement(1+m.Intn(room), false)
	}
	return s + "out end=" + m.expr(room, m.words) + ";"
}

// P15.3, P15.4: any programs, as texts and as trees, of any words.
func TestAnyPrograms(t *testing.T) {
	m := &maker{Rand: rand.New(rand.NewSource(153))}
	found := map[api.Errno]int{}
	for k := range 1500 {
		m.wild = []float64{0, 0, 0, 0.05}[k%4]
		s := m.program(2+k%20, 2+k%23)
		n := tree(t, s)
		want, err := held(t, n)
		found[err]++
		if err != api.OK {
			continue
		}
		told(t, s, want, 0, api.OK)
		for range 4 {
			same(t, n, want, some(m.Rand), some(m.Rand))
		}
	}
	if found[api.OK] < 1000 || found[ownError] < 40 || found[api.ErrType] < 30 || found[api.ErrFlow] < 30 {
		t.Errorf("just %v", found)
	}
}

// P15.3, P15.4: each expression of up to three signs, in each kind of statement.
func TestSmallPrograms(t *testing.T) {
	one := []string{"s", "z", "i", "5", "x"}
	two := slices.Clone(one)
	for _, a := range one {
		two = append(two, "~"+a, "-"+a, "("+a+"<<i)", "("+a+">>31)", "("+a+"<<32)", "("+a+"<<<33)", "f("+a+")", "g("+a+",z)", "g(s,"+a+")", "sel("+a+",z,s)", "sel(z,"+a+",5)", "sel(s,x,"+a+")")
		for _, b := range one {
			for _, sign := range []string{"+", "-", "&", "|", "^"} {
				two = append(two, "("+a+sign+b+")")
			}
		}
	}
	all := slices.Clone(two)
	for k, a := range two {
		// A part of them each time, with every sign among them.
		for b := range slices.Chunk(two[k%7:], 7) {
			all = append(all, a+[]string{"+", "-", "&", "|", "^"}[len(all)%5]+b[0])
		}
		all = append(all, "~"+a, "-"+a, a+"<<(i+31)", "f("+a+")", "g("+a+","+a+")", "sel(i,"+a+",x)")
	}
	for _, e := range all {
		const ahead = "secret s; public z; fn f(x) = x - ~x; fn g(x, y) = y & 3; x = 7; "
		for _, s := range []string{
			ahead + "for i in 0 .. 3 { x = " + e + "; y = x; } out o = x;",
			ahead + strings.ReplaceAll("out o = "+e+"; x = "+e+"; out q = x;", "i", "2"),
		} {
			if _, err := held(t, tree(t, s)); err != api.OK {
				t.Errorf("%q: %v", s, err)
			}
		}
	}
	if len(all) < 3000 {
		t.Errorf("just %d", len(all))
	}
}

// P15.3: any short programs of few statements, in each order.
func TestOrders(t *testing.T) {
	few := []string{"secret a;", "public a;", "secret b, c;", "x = 1;", "x = a;", "y = x + a;", "x = y;", "out o = x;", "show p = 3;", "out q = f(a);", "fn f(x) = x & x;", "for i in 1 .. 3 { x = x ^ i; t = x; }", "for i in 2 .. 2 { x = i; }", "for i in 0 .. 2 { for j in i .. 2 { x = a << j; } }", "out r = -f(x);"}
	found := map[api.Errno]int{}
	for _, a := range few {
		for _, b := range few {
			for _, c := range few {
				for _, d := range few {
					_, err := held(t, tree(t, a+b+c+d))
					found[err]++
				}
			}
		}
	}
	if found[api.OK] < 1000 || found[api.ErrType] < 1000 {
		t.Errorf("just %v", found)
	}
}

// P15.3, P15.4: deep expressions, and functions in one another.
func TestDeepPrograms(t *testing.T) {
	m := &maker{Rand: rand.New(rand.NewSource(154))}
	most := 0
	for range 300 {
		s := "secret a; public p;"
		calls := []string{"a", "p"}
		for f := range 1 + m.Intn(50) {
			body := of(m, "x", "y", "1", "x + y", "y - x", "~x", "-y", "x << 3", "y <<< 40", "sel(x, y, 7)")
			if f > 0 {
				body = fmt.Sprintf(of(m, "f%d(x, y)", "f%d(y, x)", "f%d(~x, y)", "f%d(x, x)", "-f%d(y, 2)", "f%d(y, x) ^ x", "sel(y, f%d(x, y), x)"), f-1)
			}
			s += fmt.Sprintf("fn f%d(x, y) = %s;", f, body)
			calls = append(calls, fmt.Sprintf("f%d(a, p)", f), fmt.Sprintf("f%d(p, ~a)", f))
		}
		e := calls[len(calls)-1-m.Intn(2)]
		for range m.Intn(28) {
			e = fmt.Sprintf(of(m, "~(%s)", "-(%s)", "(%s) << 1", "(%s) + a", "p - (%s)", "a ^ (%s)", "(%s) >> 33", "((%s))"), e)
		}
		c, err := held(t, tree(t, s+"x = "+e+"; out o = x; out q = "+of(m, calls...)+";"))
		if err != api.OK {
			t.Errorf("%q: %v", s, err)
		}
		most = max(most, len(c.Gates))
	}
	if most < 100 {
		t.Errorf("just %d gates", most)
	}
	want, last := "p0", 0
	for range 29 {
		want += fmt.Sprintf(" 0+%d ~%d", last, last+1)
		last += 2
	}
	// What is innermost comes first, the outermost sign last.
	comes(t, "public p; out o = "+strings.Repeat("~(p + ", 29)+"p"+strings.Repeat(")", 29)+";", want+fmt.Sprintf(" o=%d", last))
}
