package names_test

import (
	"math/rand"
	"slices"
	"strings"
	"testing"

	"bauta/api"
	"bauta/show"
)

// event is one thing that a program does with a name, in the order in which it does it.
type event struct {
	what, s string
	at      int
	params  []string // of the function in whose expression it is
	many    int      // parts of a call, parameters of a function
	last    bool     // whether it is in a function's expression
}

// asked is the events of an expression.
func asked(n api.Node, params []string, last bool) []event {
	var l []event
	switch n.K {
	case 1:
		l = append(l, event{what: "word", s: n.S, at: n.At, params: params, last: last})
	case 5:
		l = append(l, event{what: "call", s: n.S, at: n.At, many: len(n.L)})
	}
	for _, part := range n.L {
		l = append(l, asked(part, params, last)...)
	}
	return l
}

// done is the events of a statement.
func done(n api.Node) []event {
	of := func(what, s string) event { return event{what: what, s: s, at: n.At, params: n.P, many: len(n.P)} }
	var l []event
	switch n.K {
	case 6, 7:
		for _, s := range n.P {
			l = append(l, of("new", s), of("input", s))
		}
	case 8, 9:
		l = append(asked(n.L[0], nil, false), of("output", n.S))
	case 10:
		l = append(asked(n.L[0], nil, false), of("settable", n.S), of("variable", n.S))
	case 11:
		l = append(asked(n.L[0], nil, false), asked(n.L[1], nil, false)...)
		l = append(l, of("new", n.S), of("open", ""), of("counter", n.S))
		for _, part := range n.L[2:] {
			l = append(l, done(part)...)
		}
		l = append(l, of("shut", ""))
	case 12:
		l = append(l, of("new", n.S), of("params", n.S))
		l = append(l, asked(n.L[0], n.P, true)...)
		l = append(l, of("function", n.S))
	}
	return l
}

// meant is what s is behind all of l, told anew from the first of them on.
func meant(l []event, s string) event {
	scopes := [][]event{{{what: "function", s: "sel", many: 3}}}
	for _, e := range l {
		top := len(scopes) - 1
		switch e.what {
		case "open":
			scopes = append(scopes, nil)
		case "shut":
			scopes = scopes[:top]
		case "input", "variable", "counter":
			scopes[top] = append(scopes[top], e)
		case "function":
			scopes[0] = append(scopes[0], e)
		}
	}
	for _, e := range slices.Concat(scopes...) {
		if e.s == s {
			return e
		}
	}
	return event{what: "nothing"}
}

// fails tells whether e, behind all of l, is wrong.
func fails(l []event, e event) bool {
	is := meant(l, e.s)
	switch e.what {
	case "word":
		if e.last {
			return !slices.Contains(e.params, e.s)
		}
		return is.what == "nothing" || is.what == "function"
	case "call":
		return is.what != "function" || is.many != e.many
	case "new":
		return is.what != "nothing"
	case "settable":
		return is.what != "nothing" && is.what != "variable"
	case "output":
		return slices.ContainsFunc(l, func(ahead event) bool { return ahead.what == "output" && ahead.s == e.s })
	case "params":
		for k, p := range e.params {
			if p == e.s || slices.Contains(e.params[:k], p) || meant(l, p).what == "function" {
				return true
			}
		}
	}
	return false
}

// plain is an account of its own of what Check tells.
func plain(n api.Node) (api.Names, int, api.Errno) {
	var l []event
	for _, part := range n.L {
		l = append(l, done(part)...)
	}
	for k, e := range l {
		if fails(l[:k], e) {
			return api.Names{}, e.at, api.ErrType
		}
	}
	var all api.Names
	each(&n, func(part *api.Node) {
		switch part.K {
		case 6:
			all.Secrets = append(all.Secrets, part.P...)
		case 7:
			all.Publics = append(all.Publics, part.P...)
		case 8, 9:
			all.Outs = append(all.Outs, api.Label{Name: part.S, Shown: part.K == 9})
		}
	})
	return all, 0, api.OK
}

// held looks that Check tells of n what the plain account tells; whether it is right.
func held(t *testing.T, n api.Node) bool {
	t.Helper()
	want, at, err := plain(n)
	checks(t, n, want, at, err)
	return err == api.OK
}

// maker makes programs; of names, most often words that there are.
type maker struct {
	*rand.Rand
	words []string
	hand  bool // whether there may be what no text is read as
}

// of is one of l.
func of[T any](m *maker, l ...T) T { return l[m.Intn(len(l))] }

func (m *maker) name() string {
	return of(m, "a", "b", "c", "d", "e", "i", "j", "f", "g", "h", "sel")
}

func (m *maker) names() []string {
	l := []string{m.name()}
	for m.Intn(3) == 0 {
		l = append(l, m.name())
	}
	return l
}

func (m *maker) word() api.Node {
	switch k := m.Intn(12); {
	case k == 0:
		return name(m.name())
	case k < 4 || len(m.words) == 0:
		return num(m.Uint32())
	}
	return name(of(m, m.words...))
}

// expr is any expression of about so many nodes.
func (m *maker) expr(room int) api.Node {
	if room <= 1 {
		return m.word()
	}
	left := m.Intn(room)
	switch m.Intn(6) {
	case 0:
		return un(of(m, "~", "-"), m.expr(room-1))
	case 1:
		f, many := of(m, "f", "g", "h", "sel"), 1+m.Intn(3)
		if f == "sel" && m.Intn(4) > 0 {
			many = 3
		}
		n := call(f)
		for range many {
			n.L = append(n.L, m.expr(left/2))
		}
		return n
	case 2:
		if m.hand {
			n := m.word()
			n.L = append(n.L, m.expr(left))
			return n
		}
	case 3:
		return shift(of(m, "<<", ">>", "<<<"), m.expr(left), m.expr(room-1-left))
	}
	return bin(of(m, "+", "-", "&", "|", "^"), m.expr(left), m.expr(room-1-left))
}

// loop knows its variable, and what is set in it.
func (m *maker) loop(room int) api.Node {
	n := loop(m.name())
	n.L[0], n.L[1] = m.expr(room/4), m.expr(room/4)
	ahead := m.words
	m.words = append(slices.Clone(ahead), n.S)
	for m.Intn(3) > 0 {
		n.L = append(n.L, m.statement(room/2, true))
		if last := n.L[len(n.L)-1]; last.K == api.SLet {
			m.words = append(m.words, last.S)
		}
	}
	m.words = ahead
	return n
}

func (m *maker) statement(room int, inner bool) api.Node {
	k := m.Intn(10)
	if inner && (!m.hand || m.Intn(2) == 0) {
		k = m.Intn(5)
	}
	switch {
	case k < 3:
		return let(m.name(), m.expr(room))
	case k < 5:
		return m.loop(room)
	case k == 5:
		return secret(m.names()...)
	case k == 6:
		return public(m.names()...)
	case k == 7:
		return out(m.name(), m.expr(room))
	case k == 8:
		return shown(m.name(), m.expr(room))
	}
	n := function(of(m, "f", "g", "h", m.name()), num(1), m.names()...)
	ahead := m.words
	m.words = n.P
	n.L[0] = m.expr(room)
	m.words = ahead
	return n
}

// known is the words that there are behind all of n.
func known(n api.Node) []string {
	var l []event
	for _, part := range n.L {
		l = append(l, done(part)...)
	}
	var words []string
	for _, s := range strings.Fields("a b c d e i j f g h sel") {
		if what := meant(l, s).what; what != "nothing" && what != "function" {
			words = append(words, s)
		}
	}
	return words
}

// program grows by statements of which it stays right; each that makes it wrong is looked at, too.
func (m *maker) program(t *testing.T, tries int) (api.Node, int) {
	n, wrongs := program(), 0
	for k := range tries {
		m.words = known(n)
		next := placed(program(append(slices.Clone(n.L), m.statement(1+m.Intn(8), false))...))
		if held(t, next) {
			n = next
			continue
		}
		wrongs++
		// What is wrong there is so whatever is behind it.
		if k%4 == 0 {
			held(t, placed(program(append(next.L, m.statement(1+m.Intn(8), false), n)...)))
		}
	}
	return n, wrongs
}

// mixed is n with two of its statements in each other's place, one left out, or one there twice.
func (m *maker) mixed(n api.Node) api.Node {
	l := slices.Clone(n.L)
	if len(l) == 0 {
		return n
	}
	i, k := m.Intn(len(l)), m.Intn(len(l))
	switch m.Intn(3) {
	case 0:
		l[i], l[k] = l[k], l[i]
	case 1:
		l = slices.Delete(l, i, i+1)
	case 2:
		l = slices.Insert(l, i, l[k])
	}
	return placed(program(l...))
}

// plainUses is an account of its own of Uses.
func plainUses(n api.Node) []string {
	var all, l []string
	each(&n, func(part *api.Node) {
		if part.K == 1 {
			all = append(all, part.S)
		}
	})
	for k, s := range all {
		if slices.Index(all, s) == k {
			l = append(l, s)
		}
	}
	return l
}

// P12.1 to P12.4: any programs, made by hand and as texts have them, with what makes them wrong.
func TestAnyPrograms(t *testing.T) {
	m := &maker{Rand: rand.New(rand.NewSource(12))}
	statements, wrongs, mixed := 0, 0, 0
	for k := range 300 {
		m.hand = k%3 == 0
		n, bad := m.program(t, 5+k%60)
		statements, wrongs = statements+len(n.L), wrongs+bad
		uses(t, n, plainUses(n)...)
		withoutOutputs(t, n)
		for range 12 {
			other := m.mixed(n)
			if !held(t, other) {
				mixed++
			}
			withoutOutputs(t, other)
		}
		if !m.hand {
			s, err := show.Program(n)
			if err != api.OK {
				t.Fatalf("show.Program of %s: %v", tell(n), err)
			}
			want, _, _ := plain(n)
			right(t, s, want)
		}
	}
	if statements < 3000 || wrongs < 2000 || mixed < 1000 {
		t.Errorf("just %d statements, %d that are wrong, %d mixed", statements, wrongs, mixed)
	}
}

// P12.2: any two and three small statements, in each order, alone and in loops.
func TestSmallPrograms(t *testing.T) {
	a, one := name("a"), num(1)
	few := []api.Node{
		secret("a"), public("a", "b"), let("a", one), let("a", a), let("b", a), out("a", one), shown("a", a), out("b", call("a", one)),
		loop("a"), loop("b", let("a", one)), loop("b", let("c", a)), loop("b", loop("a", let("c", a))), loop("b", secret("a")), loop("b", function("a", one, "c")),
		function("a", one, "b"), function("b", a, "a"), function("b", name("c"), "a", "c"), function("b", call("a", one), "c"), {K: 99, S: "a", P: []string{"a"}},
	}
	went := 0
	for _, x := range few {
		for _, y := range few {
			for _, z := range few {
				for _, n := range []api.Node{program(x, y, z), program(loop("d", x, y), z), program(loop("d", x, loop("e", y)), z), program(x, loop("d", y, z))} {
					if held(t, placed(n)) {
						went++
					}
				}
			}
		}
	}
	if went < 2000 {
		t.Errorf("just %d are right", went)
	}
}

// nameds are the places in n where names stand.
func nameds(n *api.Node) []*string {
	var l []*string
	each(n, func(part *api.Node) {
		if part.K != 0 && part.K != 3 && part.K != 13 && len(part.P) == 0 || part.K == 12 {
			l = append(l, &part.S)
		}
		for k := range part.P {
			l = append(l, &part.P[k])
		}
	})
	return l
}

// P12.2: any name in place of each one in a program of all kinds of statements.
func TestEachNameElsewhere(t *testing.T) {
	n := placed(program(
		secret("a", "b"), public("c"), function("f", bin("+", name("x"), call("sel", name("x"), name("y"), num(2))), "x", "y"), let("t", bin("&", name("a"), name("c"))),
		loop("i", let("u", call("f", name("t"), name("i"))), loop("j", let("t", bin("^", name("u"), name("j"))), let("v", name("t"))), let("t", name("u"))),
		function("g", call("f", name("x"), name("x")), "x"), out("o", call("g", name("t"))), shown("p", name("b")), loop("u", let("w", name("u")))))
	if !held(t, n) {
		t.Fatal("it is wrong as it is")
	}
	wrongs := 0
	for k := range nameds(&n) {
		for _, s := range strings.Fields("a b c f g sel t u v w i j o p x y none") {
			other := copied(n)
			*nameds(&other)[k] = s
			if !held(t, other) {
				wrongs++
			}
		}
	}
	if len(nameds(&n)) != 39 || wrongs < 300 {
		t.Errorf("of %d names just %d others are wrong", len(nameds(&n)), wrongs)
	}
}
