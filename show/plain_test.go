package show_test

import (
	"fmt"
	"math/rand"
	"regexp"
	"slices"
	"strings"
	"testing"

	"bauta/api"
	"bauta/parse"
	"bauta/show"
)

// plain is an account of its own of texts, of trees that have one.
func plain(n api.Node) string {
	l := make([]string, len(n.L))
	for k, part := range n.L {
		l[k] = plain(part)
		// What a sign takes is in brackets, if it is of a sign itself.
		if n.K >= 2 && n.K <= 4 && part.K >= 2 && part.K <= 4 {
			l[k] = "(" + l[k] + ")"
		}
	}
	names := strings.Join(n.P, ", ")
	switch n.K {
	case 0:
		return fmt.Sprint(n.N)
	case 1:
		return n.S
	case 2:
		return n.S + l[0]
	case 3, 4:
		return l[0] + " " + n.S + " " + l[1]
	case 5:
		return n.S + "(" + strings.Join(l, ", ") + ")"
	case 6:
		return "secret " + names + ";"
	case 7:
		return "public " + names + ";"
	case 8:
		return "out " + n.S + " = " + l[0] + ";"
	case 9:
		return "show " + n.S + " = " + l[0] + ";"
	case 10:
		return n.S + " = " + l[0] + ";"
	case 11:
		return "for " + n.S + " in " + l[0] + " .. " + l[1] + strings.Join(append([]string{" {"}, l[2:]...), " ") + " }"
	case 12:
		return "fn " + n.S + "(" + names + ") = " + l[0] + ";"
	}
	return strings.Join(append(l, ""), "\n")
}

var (
	aName  = regexp.MustCompile(`^[A-Za-z][A-Za-z0-9_]{0,31}$`)
	aWord  = regexp.MustCompile(`^(secret|public|out|show|for|in|fn)$`)
	aToken = regexp.MustCompile(`[A-Za-z0-9_]+|<<<|<<|>>|\.\.|[^ \n]`)
)

func isName(s string) bool { return aName.MatchString(s) && !aWord.MatchString(s) }

// has tells whether n has texts, numbers, names and parts as its kind does, whatever the parts are.
func has(n api.Node) bool {
	signs := map[int]string{2: " ~ - ", 3: " + - & | ^ ", 4: " << >> <<< "}
	text := n.S == ""
	switch n.K {
	case 1, 5, 8, 9, 10, 11, 12:
		text = isName(n.S)
	case 2, 3, 4:
		text = n.S != "" && !strings.Contains(n.S, " ") && strings.Contains(signs[n.K], " "+n.S+" ")
	}
	names := len(n.P) == 0
	if n.K == 6 || n.K == 7 || n.K == 12 {
		names = len(n.P) > 0 && !slices.ContainsFunc(n.P, func(s string) bool { return !isName(s) })
	}
	parts := map[int][2]int{2: {1, 1}, 3: {2, 2}, 4: {2, 2}, 5: {1, 1 << 30}, 8: {1, 1}, 9: {1, 1}, 10: {1, 1}, 11: {2, 1 << 30}, 12: {1, 1}, 13: {0, 1 << 30}}[n.K]
	return text && names && (n.K == 0 || n.N == 0) && parts[0] <= len(n.L) && len(n.L) <= parts[1]
}

// isExpr tells whether n is an expression that lies in no more others than may be, itself in so many.
func isExpr(n api.Node, deep int) bool {
	if n.K < 0 || n.K > 5 || !has(n) || deep > mostDeep {
		return false
	}
	for _, part := range n.L {
		more := 0
		if n.K == 2 {
			more++
		}
		if n.K == 5 || part.K >= 2 && part.K <= 4 {
			more++
		}
		if !isExpr(part, deep+more) {
			return false
		}
	}
	return true
}

// isStatement likewise; in a loop it lies in others.
func isStatement(n api.Node, deep int) bool {
	if n.K < 6 || n.K > 12 || !has(n) || deep > mostDeep || deep > 0 && n.K != 10 && n.K != 11 {
		return false
	}
	for k, part := range n.L {
		if n.K == 11 && k >= 2 {
			if !isStatement(part, deep+1) {
				return false
			}
		} else if !isExpr(part, deep) {
			return false
		}
	}
	return true
}

// isProgram tells whether n is a program.
func isProgram(n api.Node) bool {
	return n.K == 13 && has(n) && !slices.ContainsFunc(n.L, func(part api.Node) bool { return !isStatement(part, 0) })
}

// held looks that n has, as a program and as an expression, the text that the plain account has, or none; whether it has one.
func held(t *testing.T, n api.Node) bool {
	t.Helper()
	one := func(is bool, s string, err api.Errno) bool {
		want, e := "", api.ErrArg
		if is {
			want = plain(n)
			if e = api.OK; len(want) > mostBytes || len(aToken.FindAllString(want, -1)) >= mostTokens {
				want, e = "", api.ErrArg
			}
		}
		if s != want || err != e {
			t.Fatalf("of %s: %.300q, %v, not %.300q, %v", tell(n), s, err, want, e)
		}
		return e == api.OK
	}
	s, err := show.Program(n)
	as := one(isProgram(n), s, err)
	s, err = show.Expr(n)
	return one(isExpr(n, 0), s, err) || as
}

// P11.2, P11.3: all trees of one node with any parts of a few, alone and in others.
func TestSmallTrees(t *testing.T) {
	a, x := name("a"), set(10, "x", num(1))
	var parts [][]api.Node
	few := list(num(0), a, bin("+", a, a), x)
	for _, p := range few {
		parts = append(parts, list(p))
		for _, q := range few {
			parts = append(parts, list(p, q))
			for _, r := range few {
				parts = append(parts, list(p, q, r))
			}
		}
	}
	parts = append(parts, nil)
	went := 0
	for k := -1; k <= 15; k++ {
		for _, s := range []string{"", "a", "~", "-", "|", ">>", "out"} {
			for _, p := range [][]string{nil, {"a"}, {"b", "a"}, {"in"}} {
				for _, l := range parts {
					for _, number := range []uint32{0, 7} {
						n := api.Node{K: k, S: s, N: number, P: p, L: l}
						for _, m := range list(n, program(n), program(set(10, "x", n)), program(loop("i", num(0), n, x)), program(loop("i", num(0), num(1), n)), call("f", n), bin("-", a, n)) {
							if held(t, m) {
								went++
							}
						}
					}
				}
			}
		}
	}
	if went < 400 {
		t.Errorf("just %d have a text", went)
	}
}

// maker makes trees.
type maker struct {
	*rand.Rand
}

// of is one of l.
func of[T any](m maker, l ...T) T { return l[m.Intn(len(l))] }

func (m maker) name() string {
	return of(m, "a", "b", "i", "sel", "f", "in_", "Out", "x9", strings.Repeat("n", 32))
}

func (m maker) names() []string {
	l := []string{m.name()}
	for m.Intn(2) == 0 {
		l = append(l, m.name())
	}
	return l
}

func (m maker) number() uint32 {
	return of(m, 0, 1, 9, 31, 255, 1<<31, 1<<32-1, m.Uint32())
}

// expr is any expression of about so many nodes.
func (m maker) expr(room int) api.Node {
	if room <= 1 {
		return of(m, num(m.number()), name(m.name()))
	}
	switch m.Intn(5) {
	case 0:
		return un(of(m, "~", "-"), m.expr(room-1))
	case 1:
		n := call(m.name())
		for left := room - 1; left > 0 || len(n.L) == 0; left /= 2 {
			n.L = append(n.L, m.expr(left/2))
		}
		return n
	}
	left := m.Intn(room)
	return bin(of(m, signs()...), m.expr(left), m.expr(room-1-left))
}

// statement is any one; in a loop just those that may be there.
func (m maker) statement(room int, inner bool) api.Node {
	k := m.Intn(8)
	if inner {
		k = m.Intn(3)
	}
	switch k {
	case 0, 1:
		return set(10, m.name(), m.expr(room))
	case 2:
		n := loop(m.name(), m.expr(room/4), m.expr(room/4))
		for m.Intn(3) > 0 && room > 1 {
			n.L = append(n.L, m.statement(room/2, true))
		}
		return n
	case 3:
		return function(m.name(), m.expr(room), m.names()...)
	case 4, 5:
		return inputs(k+2, m.names()...)
	}
	return set(k+2, m.name(), m.expr(room))
}

func (m maker) program(many, room int) api.Node {
	n := program()
	for range many {
		n.L = append(n.L, m.statement(m.Intn(room)+1, false))
	}
	return n
}

// wrong changes one node of n into what is often none.
func (m maker) wrong(n api.Node) api.Node {
	n = copied(n)
	var l []*api.Node
	each(&n, func(part *api.Node) { l = append(l, part) })
	part, other := of(m, l...), copied(*of(m, l...))
	switch m.Intn(9) {
	case 0:
		part.K = m.Intn(17) - 1
	case 1:
		part.S = of(m, "", "a", "~", "-", "+", "<<", "in", "a b", "1", "a;", "a // b")
	case 2:
		part.N = m.number()
	case 3:
		part.P = append(part.P, of(m, "a", "b", "", "1", "fn", "a, b"))
	case 4:
		part.P = nil
	case 5:
		part.L = append(part.L, other)
	case 6:
		part.L = part.L[:max(0, len(part.L)-1)]
	case 7:
		*part = other
	case 8:
		part.At++
	}
	return n
}

// P11.2 to P11.4: any programs and expressions, and such with something wrong in them.
func TestAnyTrees(t *testing.T) {
	m := maker{rand.New(rand.NewSource(11))}
	went, wrong := 0, 0
	for k := range 2000 {
		n := m.program(k%9, 1+k%70)
		if k%3 == 0 {
			n = m.expr(1 + k%120)
		}
		if held(t, n) {
			went++
		}
		for range 6 {
			if !held(t, m.wrong(n)) {
				wrong++
			}
		}
		held(t, m.wrong(m.wrong(n)))
	}
	if went < 1900 || wrong < 2000 {
		t.Errorf("just %d have a text, %d of those with something wrong have none", went, wrong)
	}
}

// P11.3: any expressions, in any loops, just as deep as may be, and one deeper.
func TestAnyDepth(t *testing.T) {
	m := maker{rand.New(rand.NewSource(60))}
	for range 700 {
		loops := m.Intn(mostDeep + 1)
		if m.Intn(2) == 0 {
			loops = m.Intn(3)
		}
		n := m.expr(1)
		least := n
		for isExpr(n, loops) {
			least, n = n, of(m, ways()...).deeper(n)
		}
		for _, n := range list(least, n) {
			held(t, n)
			held(t, program(inLoops(loops, loop("i", n, num(1)))))
			if is := held(t, program(inLoops(loops, set(10, "x", n)))); is != isExpr(n, loops) {
				t.Fatalf("in %d loops %s has a text: %v", loops, tell(n), is)
			}
		}
	}
}

// P11.4: what is read of a text has a text, of which the same is read, and which is its own text.
func TestThereAndBack(t *testing.T) {
	m := maker{rand.New(rand.NewSource(4))}
	for k := range 2000 {
		// Without the brackets and blanks that need not be, it is another text, of another tree, too.
		s := plain(m.program(1+k%6, 1+k%40))
		if k%2 == 0 {
			s = strings.NewReplacer(" + ", "+", " ^ ", "^", " << ", "<<", ", ", ",", " = ", "=", "\n", "").Replace(s)
		}
		if k%4 == 0 {
			s = strings.ReplaceAll(strings.ReplaceAll(s, "((", "(-("), "=(", "=~(")
		}
		n, at, err := parse.Parse(s)
		if err != api.OK {
			t.Fatalf("Parse(%q): %d, %v", s, at, err)
		}
		text, e := show.Program(n)
		again, at, err := parse.Parse(text)
		if e != api.OK || err != api.OK || at != 0 || !show.Same(n, again) || !same(n, again) || text != plain(n) {
			t.Fatalf("of %q: %q, %v, and of that %s, %d, %v", s, text, e, tell(again), at, err)
		}
		if twice, e := show.Program(again); twice != text || e != api.OK {
			t.Fatalf("of %q: %q, of that %q, %v", s, text, twice, e)
		}
		each(&n, func(part *api.Node) {
			if part.K > 5 {
				return
			}
			text, e := show.Expr(*part)
			again, at, err := parse.Expr(text)
			if e != api.OK || err != api.OK || at != 0 || !same(*part, again) {
				t.Fatalf("of %s: %q, %v, and of that %s, %d, %v", tell(*part), text, e, tell(again), at, err)
			}
		})
	}
}

// P11.4: what is read, but whose text is too long, or too deep with all its brackets, has none.
func TestReadButNotShown(t *testing.T) {
	for s, is := range map[string]bool{
		"x=a" + strings.Repeat("+b", mostDeep+1) + ";":                                   true,
		"x=a" + strings.Repeat("+b", mostDeep+2) + ";":                                   false,
		"x=" + strings.Repeat("~", mostDeep/2) + "a;":                                    true,
		"x=" + strings.Repeat("~", mostDeep/2) + "(a+b);":                                true,
		"x=" + strings.Repeat("~", mostDeep/2) + "(a+b+c);":                              false,
		"x=" + strings.Repeat("~", mostDeep/2+1) + "a;":                                  false,
		"x=" + strings.Repeat("-", mostDeep) + "a;":                                      false,
		"x=" + strings.Repeat("(", mostDeep) + "a" + strings.Repeat(")", mostDeep) + ";": true,
		"x=f(" + strings.Repeat("a+b,", 998) + "c);":                                     true,
		"x=f(" + strings.Repeat("a+b+c,", 499) + "c);":                                   true,
		"x=f(" + strings.Repeat("a+b+c,", 500) + "c);":                                   false,
		strings.Repeat("x=1;", 999):                                                      true,
		strings.Repeat("x=f(a,b,c)+1;", mostTokens/14):                                   true,
		"secret " + strings.Repeat(strings.Repeat("n", 32)+",", 587) + "n;":              true,
		"secret " + strings.Repeat(strings.Repeat("n", 32)+",", 588) + "n;":              false,
	} {
		n, at, err := parse.Parse(s)
		if err != api.OK {
			t.Fatalf("Parse(%.100q): %d, %v", s, at, err)
		}
		if held(t, n) != is {
			t.Errorf("%.100q has a text: not %v", s, is)
		}
	}
}
