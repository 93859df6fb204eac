package eval_test

import (
	"fmt"
	"math/rand"
	"slices"
	"strings"
	"testing"

	"bauta/api"
	"bauta/eval"
	"bauta/flow"
	"bauta/names"
	"bauta/parse"
)

// written is a word as its 32 digits, the highest first.
func written(a uint32) string { return fmt.Sprintf("%032b", a) }

// value is the word of such digits.
func value(digits string) uint32 {
	a := uint32(0)
	for _, d := range digits {
		a = 2*a + uint32(d-'0')
	}
	return a
}

func turned(a string) string { return strings.NewReplacer("0", "1", "1", "0").Replace(a) }

// sum is made digit by digit, the lowest first.
func sum(a, b string, carry int) string {
	l := make([]byte, 32)
	for k := 31; k >= 0; k-- {
		carry += int(a[k]-'0') + int(b[k]-'0')
		l[k] = byte('0' + carry%2)
		carry /= 2
	}
	return string(l)
}

func less(a, b string) string { return sum(a, turned(b), 1) }

// both is what a sign makes of two words.
func both(sign, a, b string) string {
	switch sign {
	case "+":
		return sum(a, b, 0)
	case "-":
		return less(a, b)
	}
	s := ""
	for k := range 32 {
		pair := map[string]string{"&": "11", "|": "01 10 11", "^": "01 10"}[sign]
		s += map[bool]string{true: "1", false: "0"}[strings.Contains(pair, a[k:k+1]+b[k:k+1])]
	}
	return s
}

// moved is a word that is shifted or turned.
func moved(sign, a string, by uint32) string {
	if sign == "<<<" {
		return a[by%32:] + a[:by%32]
	}
	by = min(by, 32)
	noughts := strings.Repeat("0", int(by))
	if sign == "<<" {
		return a[by:] + noughts
	}
	return noughts + a[:32-by]
}

func chosen(m, a, b string) string {
	s := ""
	for k := range 32 {
		s += map[byte]string{'1': a[k : k+1], '0': b[k : k+1]}[m[k]]
	}
	return s
}

// account is an account of its own of what comes of a program, as its loops are written out.
type account struct {
	functions        map[string]api.Node
	known            map[string]string
	secrets, publics []uint32
	outs             []uint32
}

// plain is what comes of n, of which flow tells no error.
func plain(n api.Node, secrets, publics []uint32) []uint32 {
	c := &account{functions: map[string]api.Node{}, known: map[string]string{}, secrets: secrets, publics: publics}
	for _, part := range flat(n) {
		if part.K == 12 {
			c.functions[part.S] = part
		}
	}
	for _, part := range c.straight(n.L) {
		c.statement(part)
	}
	return c.outs
}

// flat is n and all nodes below it.
func flat(n api.Node) []api.Node {
	l := []api.Node{n}
	for _, part := range n.L {
		l = append(l, flat(part)...)
	}
	return l
}

// straight is the statements as they are run, without loops, and with the numbers of loops' names.
func (c *account) straight(l []api.Node) []api.Node {
	var all []api.Node
	for _, n := range l {
		if n.K != 11 {
			all = append(all, n)
			continue
		}
		for i := value(c.word(n.L[0], nil)); i < value(c.word(n.L[1], nil)); i++ {
			for _, part := range n.L[2:] {
				all = append(all, c.straight([]api.Node{put(part, n.S, i)})...)
			}
		}
	}
	return all
}

// put is n with a number for a name. A function's names are its own.
func put(n api.Node, s string, number uint32) api.Node {
	switch {
	case n.K == 12:
		return n
	case n.K == 1 && n.S == s:
		return num(number)
	}
	n.L = slices.Clone(n.L)
	for k := range n.L {
		n.L[k] = put(n.L[k], s, number)
	}
	return n
}

func (c *account) statement(n api.Node) {
	switch n.K {
	case 6, 7:
		from := &c.secrets
		if n.K == 7 {
			from = &c.publics
		}
		for _, s := range n.P {
			*from = append(slices.Clone(*from), 0)
			c.known[s] = written((*from)[0])
			*from = (*from)[1:]
		}
	case 10:
		c.known[n.S] = c.word(n.L[0], c.known)
	case 8, 9:
		c.outs = append(c.outs, value(c.word(n.L[0], c.known)))
	}
}

func (c *account) word(n api.Node, known map[string]string) string {
	var l []string
	for _, part := range n.L {
		l = append(l, c.word(part, known))
	}
	switch n.K + 100*len(l) {
	case 0:
		return written(n.N)
	case 1:
		return known[n.S]
	case 102:
		return map[string]string{"~": turned(l[0]), "-": less(written(0), l[0])}[n.S]
	case 203:
		return both(n.S, l[0], l[1])
	case 204:
		return moved(n.S, l[0], value(l[1]))
	}
	if n.S == "sel" {
		return chosen(l[0], l[1], l[2])
	}
	parts := map[string]string{}
	for k, s := range c.functions[n.S].P {
		parts[s] = l[k]
	}
	return c.word(c.functions[n.S].L[0], parts)
}

// maker makes texts of programs in which names are right.
type maker struct {
	*rand.Rand
	words, publics, loops []string // words are inputs and variables, publics those of them that are no secret
	functions             []callee
	fresh                 int     // names that were made
	wild                  float64 // how often an amount is any expression
}

// callee is a function's name, and with how many parts it is called.
type callee struct {
	s     string
	parts int
}

// of is one of l.
func of[T any](m *maker, l ...T) T { return l[m.Intn(len(l))] }

// new is a name that there is not yet.
func (m *maker) new(s string) string {
	m.fresh++
	return fmt.Sprint(s, m.fresh)
}

func (m *maker) number() string {
	return of(m, "0", "1", "2", "3", "31", "32", "33", "0xffffffff", "0x80000000", fmt.Sprint(m.Uint32()), fmt.Sprintf("0x%x", m.Uint32()), fmt.Sprint(m.Intn(40)))
}

func (m *maker) leaf(l []string) string {
	if len(l) > 0 && m.Intn(5) > 0 {
		return of(m, l...)
	}
	return m.number()
}

// fixed is a constant of about so many nodes; now and then any expression.
func (m *maker) fixed(room int) string {
	if m.Float64() < m.wild {
		return "(" + m.expr(room, m.words) + ")"
	}
	left := m.Intn(room + 1)
	switch k := m.Intn(8); {
	case room < 2 || k < 3:
		return m.leaf(m.loops)
	case k == 3:
		return of(m, "~", "-") + m.fixed(room-1)
	}
	return "(" + m.fixed(left) + of(m, "+", "-", "&", "|", "^", "<<", ">>", "<<<") + m.fixed(room-left) + ")"
}

// expr is an expression of those names, of about so many nodes.
func (m *maker) expr(room int, l []string) string {
	if room <= 1 {
		return m.leaf(append(slices.Clone(l), m.loops...))
	}
	left := m.Intn(room)
	switch k := m.Intn(8); {
	case k == 0:
		return of(m, "~", "-") + "(" + m.expr(room-1, l) + ")"
	case k < 3:
		f := of(m, m.functions...)
		parts := make([]string, f.parts)
		for k := range parts {
			parts[k] = m.expr(room/f.parts, l)
		}
		return f.s + "(" + strings.Join(parts, ",") + ")"
	case k == 3:
		return "(" + m.expr(room-1-left/4, l) + ")" + of(m, "<<", ">>", "<<<") + m.fixed(left/4)
	}
	return "(" + m.expr(left, l) + ")" + of(m, "+", "-", "&", "|", "^") + "(" + m.expr(room-1-left, l) + ")"
}

// statement is one that may stand in a loop, if it is told to be inner.
func (m *maker) statement(room int, inner bool) string {
	k := m.Intn(12)
	if inner {
		k = m.Intn(6)
	}
	switch {
	case k < 4:
		s := of(m, "t", "u", "v", "w")
		text := s + "=" + m.expr(room, m.words) + ";"
		if !slices.Contains(m.words, s) {
			m.words = append(m.words, s)
		}
		return text
	case k < 6:
		return m.loop(room)
	case k == 6:
		word, s := of(m, "secret", "public"), m.new("a")
		m.words = append(m.words, s)
		if word == "public" {
			m.publics = append(m.publics, s)
		}
		return word + " " + s + ";"
	case k == 7:
		return "show " + m.new("o") + "=" + m.expr(room, m.publics) + ";"
	case k < 10:
		return "out " + m.new("o") + "=" + m.expr(room, m.words) + ";"
	}
	return m.function(room)
}

func (m *maker) function(room int) string {
	p := []string{of(m, "x", "t", "a1"), of(m, "y", "u", "i"), of(m, "z", "w")}[:1+m.Intn(3)]
	inner := *m
	inner.words, inner.loops = p, nil
	s := m.new("f")
	text := "fn " + s + "(" + strings.Join(p, ",") + ")=" + inner.expr(room, p) + ";"
	m.functions = append(m.functions, callee{s, len(p)})
	return text
}

// loop has few rounds most often.
func (m *maker) loop(room int) string {
	s := m.new("i")
	from := m.number()
	ends := of(m, "0.."+fmt.Sprint(m.Intn(4)), "2..5", from+".."+from+"+"+fmt.Sprint(m.Intn(4)), m.fixed(2)+"&3.."+m.fixed(2)+"&3")
	if m.Intn(9) == 0 {
		ends = m.fixed(3) + ".." + m.fixed(3)
	}
	ahead, loops := slices.Clone(m.words), m.loops
	m.loops = append(slices.Clone(loops), s)
	text := "for " + s + " in " + ends + "{"
	for range m.Intn(4) {
		text += m.statement(room/2, true)
	}
	m.words, m.loops = ahead, loops
	return text + "}"
}

func (m *maker) program(many, room int) string {
	s := "secret s;public z;"
	m.words, m.publics, m.loops, m.functions, m.fresh = []string{"s", "z"}, []string{"z"}, nil, []callee{{"sel", 3}}, 0
	for range many {
		s += m.statement(1+m.Intn(room), false)
	}
	return s + "out end=" + m.expr(room, m.words) + ";"
}

// some is a list of up to so many words.
func (m *maker) some(many int) []uint32 {
	l := make([]uint32, m.Intn(many+1))
	for k := range l {
		l[k] = of(m, m.Uint32(), m.Uint32(), 0, 1, 1<<31, 1<<32-1)
	}
	return l
}

// held looks that Run tells of n what the plain account tells, or flow's error.
func held(t *testing.T, n api.Node, secrets, publics []uint32) ([]uint32, api.Errno) {
	t.Helper()
	labels, at, err := flow.Check(n)
	if err != api.OK {
		runs(t, n, secrets, publics, nil, at, err)
		return nil, err
	}
	want := plain(n, secrets, publics)
	if len(want) != len(labels) {
		t.Errorf("%s: %d outputs, %d labels", tell(n), len(want), len(labels))
	}
	runs(t, n, secrets, publics, want, 0, api.OK)
	return want, api.OK
}

// P14.1, P14.2, P14.4: any programs, as texts and as trees, of any words; and in loops, as no text has them.
func TestAnyPrograms(t *testing.T) {
	m := &maker{Rand: rand.New(rand.NewSource(14))}
	found, differ, looped := map[api.Errno]int{}, 0, 0
	for k := range 1500 {
		m.wild = []float64{0, 0, 0, 0.05}[k%4]
		s := m.program(2+k%20, 2+k%13)
		n := tree(t, s)
		secrets, publics := m.some(8), m.some(8)
		ahead, err := held(t, n, secrets, publics)
		found[err]++
		labels, at, _ := flow.Check(n)
		told(t, s, secrets, publics, ahead, at, err)
		if err != api.OK {
			continue
		}
		for range 3 {
			again, _ := held(t, n, m.some(8), publics)
			for k, label := range labels {
				if again[k] != ahead[k] {
					differ++
					if !label.Secret {
						t.Errorf("%s of %.300q is %d and %d", label.Name, s, ahead[k], again[k])
					}
				}
			}
		}
		n = program(num(1), loop("round", uint32(k%4), n.L...))
		if _, _, err := names.Check(n); err == api.OK {
			looped++
			held(t, n, m.some(20), m.some(20))
		}
	}
	if found[api.OK] < 1000 || found[api.ErrType] < 30 || found[api.ErrFlow] < 30 || differ < 3000 || looped < 1000 {
		t.Errorf("just %v, %d outputs that hang on secrets, %d loops", found, differ, looped)
	}
}

// P14.3: any expressions, of any names and words.
func TestAnyExprs(t *testing.T) {
	m := &maker{Rand: rand.New(rand.NewSource(143))}
	found := map[api.Errno]int{}
	all := []string{"a", "b", "c", "d", "sel", "f"}
	for k := range 20000 {
		m.wild, m.functions, m.loops = 0.05, []callee{{"sel", 3}}, nil
		if k%5 == 0 {
			m.functions = append(m.functions, of(m, callee{"sel", 2}, callee{"sel", 4}, callee{"f", 1}, callee{"g", 3}))
		}
		if k%7 == 0 {
			m.loops = []string{"e"}
		}
		m.words = all[:1+m.Intn(5)]
		s := m.expr(1+k%20, m.words)
		n, _, err := parse.Expr(s)
		if err != api.OK {
			t.Fatalf("parse.Expr(%q): %v", s, err)
		}
		var l []string
		for range m.Intn(15) {
			l = append(l, of(m, all...))
		}
		given := m.some(15)
		want, e := alike(n, l, given)
		found[e]++
		alone(t, s, l, given, want, e)
	}
	if found[api.OK] < 3000 || found[api.ErrArg] < 3000 {
		t.Errorf("just %v", found)
	}
}

// alike is an account of its own of what Expr tells.
func alike(n api.Node, l []string, given []uint32) (uint32, api.Errno) {
	known := map[string]string{}
	for k, s := range l {
		if _, is := known[s]; !is {
			known[s] = written(append(slices.Clone(given), make([]uint32, 15)...)[k])
		}
	}
	for _, part := range flat(n) {
		_, is := known[part.S]
		none := part.K == 1 && !is || part.K == 5 && (part.S != "sel" || len(part.L) != 3)
		if none || part.K == 4 && slices.ContainsFunc(flat(part.L[1]), func(n api.Node) bool { return n.K == 1 || n.K == 5 }) {
			return 0, api.ErrArg
		}
	}
	c := &account{known: known}
	return value(c.word(n, known)), api.OK
}

// P14.2: expressions of up to three signs, of words at the edges.
func TestSmallExprs(t *testing.T) {
	one := []string{"a", "b", "0", "1", "0x80000000", "~0"}
	two := slices.Clone(one)
	for _, x := range one {
		two = append(two, "~"+x, "-"+x, "("+x+"<<31)", "("+x+">>31)", "("+x+"<<<1)", "sel(a,"+x+",b)", "sel("+x+",b,a)")
		for _, y := range one {
			for _, s := range []string{"+", "-", "&", "|", "^"} {
				two = append(two, "("+x+s+y+")")
			}
		}
	}
	l := []string{"a", "b"}
	for k, x := range two {
		given := [][]uint32{{0, 1}, {1<<32 - 1, 1}, {1 << 31, 1<<32 - 1}, {0xdeadbeef, 0x12345678}, {7}}[k%5]
		// A fifth of them each time, with every sign and words of every sort among them.
		for y := range slices.Chunk(two[k%5:], 5) {
			for _, s := range []string{"+", "-", "&", "|", "^"} {
				y := y[0]
				n, _, _ := parse.Expr(x + s + y)
				want, e := alike(n, l, given)
				if got, err := eval.Expr(x+s+y, l, given); got != want || err != e {
					t.Errorf("Expr(%q) of %v: %d, %v, not %d, %v", x+s+y, given, got, err, want, e)
				}
			}
		}
	}
}
