package show_test

import (
	"fmt"
	"slices"
	"strings"
	"testing"

	"bauta/api"
	"bauta/parse"
	"bauta/show"
)

// Nodes as the document has them, kinds in numbers.
func num(n uint32) api.Node                 { return api.Node{K: 0, N: n} }
func name(s string) api.Node                { return api.Node{K: 1, S: s} }
func un(s string, a api.Node) api.Node      { return api.Node{K: 2, S: s, L: list(a)} }
func call(s string, l ...api.Node) api.Node { return api.Node{K: 5, S: s, L: l} }
func list(l ...api.Node) []api.Node         { return l }

func bin(s string, a, b api.Node) api.Node {
	k := 3
	if strings.ContainsAny(s, "<>") {
		k = 4
	}
	return api.Node{K: k, S: s, L: list(a, b)}
}

func inputs(k int, p ...string) api.Node { return api.Node{K: k, P: p} }

// set is a statement that sets a name to one part.
func set(k int, s string, a api.Node) api.Node {
	return api.Node{K: k, S: s, L: list(a)}
}

func function(s string, a api.Node, p ...string) api.Node {
	return api.Node{K: 12, S: s, L: list(a), P: p}
}

func loop(s string, l ...api.Node) api.Node { return api.Node{K: 11, S: s, L: l} }
func program(l ...api.Node) api.Node        { return api.Node{K: 13, L: l} }

// signs are all signs between two parts.
func signs() []string {
	return []string{"|", "^", "&", "<<", ">>", "<<<", "+", "-"}
}

// same is an account of its own of trees that are the same but for places.
func same(a, b api.Node) bool {
	if a.K != b.K || a.S != b.S || a.N != b.N || len(a.P) != len(b.P) || len(a.L) != len(b.L) {
		return false
	}
	for k := range a.P {
		if a.P[k] != b.P[k] {
			return false
		}
	}
	for k := range a.L {
		if !same(a.L[k], b.L[k]) {
			return false
		}
	}
	return true
}

// tell is a tree as a text, as far as it is of use in what is told of a test.
func tell(n api.Node) string {
	return fmt.Sprintf("%.400s", fmt.Sprintf("%+v", n))
}

// copied is n in memory of its own.
func copied(n api.Node) api.Node {
	n.P = slices.Clone(n.P)
	n.L = slices.Clone(n.L)
	for k := range n.L {
		n.L[k] = copied(n.L[k])
	}
	return n
}

// placed is n, each node at another place.
func placed(n api.Node, at int) api.Node {
	n = copied(n)
	n.At = at
	for k := range n.L {
		n.L[k] = placed(n.L[k], 3*at-k-1)
	}
	return n
}

// shows looks that n is the program of that text, and that it is read again.
func shows(t *testing.T, n api.Node, want string) {
	t.Helper()
	for _, tree := range []api.Node{n, placed(n, 5), placed(n, -2)} {
		if s, err := show.Program(tree); s != want || err != api.OK {
			t.Errorf("Program of %s: %.400q, %v, not %.400q", tell(tree), s, err, want)
		}
	}
	if again, at, err := parse.Parse(want); !same(again, n) || at != 0 || err != api.OK {
		t.Errorf("Parse(%.400q) = %s, %d, %v, not %s", want, tell(again), at, err, tell(n))
	}
}

// expr looks that n is the expression of that text, alone and wherever one may stand.
func expr(t *testing.T, n api.Node, want string) {
	t.Helper()
	for _, tree := range []api.Node{n, placed(n, 7), placed(n, -1)} {
		if s, err := show.Expr(tree); s != want || err != api.OK {
			t.Errorf("Expr of %s: %.400q, %v, not %.400q", tell(tree), s, err, want)
		}
	}
	if again, at, err := parse.Expr(want); !same(again, n) || at != 0 || err != api.OK {
		t.Errorf("parse.Expr(%.400q) = %s, %d, %v, not %s", want, tell(again), at, err, tell(n))
	}
	shows(t, program(set(10, "x", n)), "x = "+want+";\n")
	shows(t, program(set(8, "o", n), set(9, "p", n)), "out o = "+want+";\nshow p = "+want+";\n")
	shows(t, program(function("f", n, "a", "b")), "fn f(a, b) = "+want+";\n")
	shows(t, program(loop("i", n, n, set(10, "y", n))), "for i in "+want+" .. "+want+" { y = "+want+"; }\n")
}

// P11.2: each kind of expression.
func TestExpressions(t *testing.T) {
	expr(t, num(0), "0")
	expr(t, num(1), "1")
	expr(t, num(10), "10")
	expr(t, num(2147483647), "2147483647")
	expr(t, num(2147483648), "2147483648")
	expr(t, num(4294967295), "4294967295")
	expr(t, name("a"), "a")
	expr(t, name("Zz_9"), "Zz_9")
	expr(t, name("secrets"), "secrets")
	expr(t, name(strings.Repeat("n", 32)), strings.Repeat("n", 32))
	expr(t, un("~", name("a")), "~a")
	expr(t, un("-", num(1)), "-1")
	for _, s := range signs() {
		expr(t, bin(s, name("a"), name("b")), "a "+s+" b")
		expr(t, bin(s, num(7), num(0)), "7 "+s+" 0")
		expr(t, bin(s, name("a"), name("a")), "a "+s+" a")
	}
	expr(t, call("f", name("a")), "f(a)")
	expr(t, call("f", num(3), name("b")), "f(3, b)")
	expr(t, call("sel", name("m"), name("a"), num(9)), "sel(m, a, 9)")
	expr(t, call("f", call("f", call("f", name("f")))), "f(f(f(f)))")
	expr(t, call("f", call("g", num(1)), call("h", num(2), num(3))), "f(g(1), h(2, 3))")
}

// P11.2: a call's parts stand as they are, whatever they are.
func TestParts(t *testing.T) {
	expr(t, call("f", un("~", name("a"))), "f(~a)")
	expr(t, call("f", bin("+", name("a"), num(1)), bin("<<<", name("b"), num(2))), "f(a + 1, b <<< 2)")
	expr(t, call("f", un("-", un("-", num(1))), call("g", bin("|", name("a"), name("b")))), "f(-(-1), g(a | b))")
	expr(t, call("sel", bin("&", name("m"), bin("^", name("a"), name("b"))), num(0), un("~", call("g", num(0)))), "sel(m & (a ^ b), 0, ~g(0))")
}

// operand is an expression, and its text as an operand.
type operand struct {
	n api.Node
	s string
}

func operands() []operand {
	l := []operand{
		{num(0), "0"}, {num(4294967295), "4294967295"}, {name("a"), "a"}, {call("f", name("a")), "f(a)"}, {call("f", un("~", num(1)), bin("+", name("a"), name("b"))), "f(~1, a + b)"},
		{un("~", name("a")), "(~a)"}, {un("-", num(1)), "(-1)"}, {un("~", call("f", num(2))), "(~f(2))"}, {un("-", un("~", name("b"))), "(-(~b))"},
		{bin("-", bin("-", name("a"), name("b")), bin("-", name("c"), name("d"))), "((a - b) - (c - d))"},
	}
	for _, s := range signs() {
		l = append(l, operand{bin(s, name("a"), num(31)), "(a " + s + " 31)"})
	}
	return l
}

// P11.2: each operand under ~ and -, and under each sign, to the left and to the right.
func TestOperands(t *testing.T) {
	for _, x := range operands() {
		expr(t, un("~", x.n), "~"+x.s)
		expr(t, un("-", x.n), "-"+x.s)
		for _, s := range signs() {
			expr(t, bin(s, x.n, name("z")), x.s+" "+s+" z")
			expr(t, bin(s, num(5), x.n), "5 "+s+" "+x.s)
			for _, y := range operands() {
				if got, err := show.Expr(bin(s, x.n, y.n)); got != x.s+" "+s+" "+y.s || err != api.OK {
					t.Errorf("Expr: %q, %v, not %q", got, err, x.s+" "+s+" "+y.s)
				}
			}
		}
	}
}

// P11.3: each kind of statement, alone, and as what is behind and ahead of others.
func TestStatements(t *testing.T) {
	a := name("a")
	for want, n := range map[string]api.Node{
		"secret a;":                  inputs(6, "a"),
		"secret a, b;":               inputs(6, "a", "b"),
		"secret b, a, b;":            inputs(6, "b", "a", "b"),
		"public p;":                  inputs(7, "p"),
		"public p, q, r, s;":         inputs(7, "p", "q", "r", "s"),
		"out o = a;":                 set(8, "o", a),
		"out o = a + 1;":             set(8, "o", bin("+", a, num(1))),
		"show o = ~a;":               set(9, "o", un("~", a)),
		"show o = 0;":                set(9, "o", num(0)),
		"x = a;":                     set(10, "x", a),
		"x = (a ^ b) ^ c;":           set(10, "x", bin("^", bin("^", a, name("b")), name("c"))),
		"fn f(a) = a;":               function("f", a, "a"),
		"fn sel(a, b) = a | b;":      function("sel", bin("|", a, name("b")), "a", "b"),
		"fn f(c, a, b) = f(a);":      function("f", call("f", a), "c", "a", "b"),
		"for i in 0 .. 1 { }":        loop("i", num(0), num(1)),
		"for i in a .. b { x = i; }": loop("i", a, name("b"), set(10, "x", name("i"))),
		"for i in -1 .. a + 1 { x = i; y = 1; x = ~y; }": loop("i", un("-", num(1)), bin("+", a, num(1)), set(10, "x", name("i")), set(10, "y", num(1)), set(10, "x", un("~", name("y")))),
		"for i in 0 .. 2 { for j in i .. 3 { } }":        loop("i", num(0), num(2), loop("j", name("i"), num(3))),
		"for i in 0 .. 2 { x = i; for j in 0 .. 1 { x = j; for k in 0 .. 0 { } } for j in 1 .. 2 { } y = x; }": loop("i", num(0), num(2),
			set(10, "x", name("i")), loop("j", num(0), num(1), set(10, "x", name("j")), loop("k", num(0), num(0))), loop("j", num(1), num(2)), set(10, "y", name("x"))),
	} {
		shows(t, program(n), want+"\n")
		shows(t, program(n, n), want+"\n"+want+"\n")
		shows(t, program(set(10, "z", num(1)), n, inputs(6, "z")), "z = 1;\n"+want+"\nsecret z;\n")
		if n.K == 10 || n.K == 11 {
			shows(t, program(loop("q", num(8), num(9), n, n)), "for q in 8 .. 9 { "+want+" "+want+" }\n")
		}
	}
}

// P11.3: whole programs; the one without statements has the empty text.
func TestPrograms(t *testing.T) {
	shows(t, program(), "")
	shows(t, api.Node{K: 13, L: []api.Node{}, P: []string{}}, "")
	shows(t, program(set(10, "x", bin("^", name("a"), bin("&", name("b"), un("~", name("c")))))), "x = a ^ (b & (~c));\n")
	shows(t, program(
		inputs(6, "a", "b"), inputs(7, "p"), function("f", bin("&", name("x"), num(255)), "x"),
		set(10, "t", num(0)), loop("i", num(0), num(4), set(10, "t", bin("^", name("t"), bin("<<", call("f", name("a")), name("i"))))),
		set(8, "o", bin("-", name("t"), name("b"))), set(9, "q", name("p"))),
		"secret a, b;\npublic p;\nfn f(x) = x & 255;\nt = 0;\nfor i in 0 .. 4 { t = t ^ (f(a) << i); }\nout o = t - b;\nshow q = p;\n")
}

// P11.2, P11.3: the document's example, and others that are written otherwise ahead.
func TestTextsOfTexts(t *testing.T) {
	for s, want := range map[string]string{
		"x=a^b&~c;":               "x = a ^ (b & (~c));\n",
		"x=a-b-c;":                "x = (a - b) - c;\n",
		"x=((a))|(b^c);":          "x = a | (b ^ c);\n",
		"x=--~a;":                 "x = -(-(~a));\n",
		"x=f( 0xfF ,(b) , - 1 );": "x = f(255, b, -1);\n",
		"x = 007<<0x20>>1<<<2;":   "x = ((7 << 32) >> 1) <<< 2;\n",
		"// nothing\n":            "",
		"secret\na\n,b // names\n;\tfor i in(0)..(1){x=(i);}out o=~(a);": "secret a, b;\nfor i in 0 .. 1 { x = i; }\nout o = ~a;\n",
	} {
		n, _, e := parse.Parse(s)
		got, err := show.Program(n)
		if e != api.OK || got != want || err != api.OK {
			t.Errorf("of %q: %q, %v, not %q", s, got, err, want)
		}
	}
}

// samples are trees of all kinds, and some that are no programs.
func samples() []api.Node {
	a, b := name("a"), name("b")
	all := program(
		inputs(6, "a", "b", "c"), inputs(7, "p", "p"), function("f", bin("&", a, num(255)), "a", "b"), set(10, "t", num(0)),
		loop("i", num(0), un("-", num(4)), set(10, "t", bin("<<", call("f", a, b, num(1)), name("i"))), loop("j", a, b)),
		set(8, "o", bin("-", name("t"), bin("|", a, un("~", a)))), set(9, "q", name("p")))
	return []api.Node{
		{}, num(1), a, un("~", a), bin("+", a, b), bin(">>", a, b), call("f", a, b), call("f", a, a), inputs(6, "a"), inputs(7, "a", "b"), set(8, "a", b), set(9, "b", a), set(10, "a", a),
		loop("i", a, b, set(10, "a", b)), function("f", a, "a", "b"), program(), program(set(10, "a", b), set(10, "b", a)), all,
		{K: 77, S: "no", N: 5, L: list(a, program(all)), P: []string{"", "~"}}, {K: -3, S: "\x00"},
	}
}

// each goes through n and all that is below it.
func each(n *api.Node, visit func(*api.Node)) {
	visit(n)
	for k := range n.L {
		each(&n.L[k], visit)
	}
}

// changes are ways to make another tree of one, most of them in more than one way of the document.
func changes() map[string]func(*api.Node) {
	return map[string]func(*api.Node){
		"kind above": func(n *api.Node) { n.K++ }, "kind below": func(n *api.Node) { n.K-- }, "kind far": func(n *api.Node) { n.K += 1 << 40 },
		"text longer": func(n *api.Node) { n.S += "a" }, "no text": func(n *api.Node) { n.S = "" }, "text's case": func(n *api.Node) { n.S = strings.ToUpper(n.S) },
		"number": func(n *api.Node) { n.N++ }, "high bit": func(n *api.Node) { n.N ^= 1 << 31 },
		"name more": func(n *api.Node) { n.P = append(n.P, "a") }, "empty name": func(n *api.Node) { n.P = append(n.P, "") }, "name ahead": func(n *api.Node) { n.P = slices.Insert(n.P, 0, "a") },
		"names turned": func(n *api.Node) { slices.Reverse(n.P) }, "no names": func(n *api.Node) { n.P = nil }, "name less": func(n *api.Node) { n.P = n.P[:max(len(n.P)-1, 0)] },
		"names joined": func(n *api.Node) { n.P = []string{strings.Join(n.P, "")} }, "text as name": func(n *api.Node) { n.P, n.S = append(n.P, n.S), "" },
		"last name": func(n *api.Node) {
			if len(n.P) > 0 {
				n.P[len(n.P)-1] += "a"
			}
		},
		"part more": func(n *api.Node) { n.L = append(n.L, name("a")) }, "part ahead": func(n *api.Node) { n.L = slices.Insert(n.L, 0, num(0)) }, "zero part": func(n *api.Node) { n.L = append(n.L, api.Node{}) },
		"parts turned": func(n *api.Node) { slices.Reverse(n.L) }, "no parts": func(n *api.Node) { n.L = nil }, "part less": func(n *api.Node) { n.L = n.L[:max(len(n.L)-1, 0)] },
		"part deeper": func(n *api.Node) {
			if len(n.L) > 0 {
				n.L[0] = api.Node{K: n.K, S: n.S, L: list(n.L[0])}
			}
		},
		"part twice": func(n *api.Node) {
			if len(n.L) > 0 {
				n.L = append(n.L, n.L[len(n.L)-1])
			}
		},
	}
}

// P11.1: whatever is changed, wherever in a tree, it is not the same any more.
func TestNotTheSame(t *testing.T) {
	for _, n := range samples() {
		for what, change := range changes() {
			other, many := copied(n), 0
			each(&other, func(*api.Node) { many++ })
			for which := range many {
				other, k := copied(n), 0
				each(&other, func(part *api.Node) {
					if k == which {
						change(part)
					}
					k++
				})
				is := same(n, other)
				if show.Same(n, other) != is || show.Same(other, n) != is {
					t.Errorf("%s at node %d of %s: Same is not %v", what, which, tell(n), is)
				}
			}
		}
	}
}

// P11.1: trees that differ in places alone are the same; so are a list that is nil and an empty one.
func TestSame(t *testing.T) {
	for k, n := range samples() {
		if !show.Same(n, n) || !show.Same(n, copied(n)) || !show.Same(placed(n, 4), n) || !show.Same(n, placed(n, -9)) || !show.Same(placed(n, 1), placed(n, 2)) {
			t.Errorf("%s is not the same", tell(n))
		}
		other := copied(n)
		each(&other, func(part *api.Node) {
			part.At = 1 << 40
			part.P, part.L = append(make([]string, 0, 3), part.P...), append(make([]api.Node, 0, 3), part.L...)
		})
		if !show.Same(n, other) || !show.Same(other, n) {
			t.Errorf("%s with other lists is not the same", tell(n))
		}
		for i, m := range samples() {
			if show.Same(n, m) != (i == k) {
				t.Errorf("Same of %s and %s: not %v", tell(n), tell(m), i == k)
			}
		}
	}
	deep, other := name("a"), name("b")
	for range 1<<16 - 1 {
		deep, other = un("~", deep), un("~", other)
	}
	if !show.Same(deep, deep) || show.Same(deep, other) {
		t.Error("deep down it is not seen whether trees are the same")
	}
}
