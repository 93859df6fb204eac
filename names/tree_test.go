package names_test

import (
	"fmt"
	"reflect"
	"slices"
	"strings"
	"testing"

	"bauta/api"
	"bauta/names"
	"bauta/parse"
)

// Nodes as the document has them, kinds in numbers.
func num(n uint32) api.Node                  { return api.Node{K: 0, N: n} }
func name(s string, l ...api.Node) api.Node  { return api.Node{K: 1, S: s, L: l} }
func un(s string, l ...api.Node) api.Node    { return api.Node{K: 2, S: s, L: l} }
func bin(s string, l ...api.Node) api.Node   { return api.Node{K: 3, S: s, L: l} }
func shift(s string, l ...api.Node) api.Node { return api.Node{K: 4, S: s, L: l} }
func call(s string, l ...api.Node) api.Node  { return api.Node{K: 5, S: s, L: l} }
func secret(p ...string) api.Node            { return api.Node{K: 6, P: p} }
func public(p ...string) api.Node            { return api.Node{K: 7, P: p} }
func out(s string, l ...api.Node) api.Node   { return api.Node{K: 8, S: s, L: l} }
func shown(s string, l ...api.Node) api.Node { return api.Node{K: 9, S: s, L: l} }
func let(s string, l ...api.Node) api.Node   { return api.Node{K: 10, S: s, L: l} }
func program(l ...api.Node) api.Node         { return api.Node{K: 13, L: l} }

// loop goes from 0 to below 2.
func loop(s string, l ...api.Node) api.Node {
	return api.Node{K: 11, S: s, L: append([]api.Node{num(0), num(2)}, l...)}
}

func function(s string, a api.Node, p ...string) api.Node {
	return api.Node{K: 12, S: s, L: []api.Node{a}, P: p}
}

// here is the place of what is wrong first; no other node has it.
const here = -7

// bad is n, which is wrong.
func bad(n api.Node) api.Node {
	n.At = here
	return n
}

// each goes through n and all that is below it.
func each(n *api.Node, visit func(*api.Node)) {
	visit(n)
	for k := range n.L {
		each(&n.L[k], visit)
	}
}

// placed is n in memory of its own, each node that isn't bad at a place of its own.
func placed(n api.Node) api.Node {
	n = copied(n)
	place := 0
	each(&n, func(part *api.Node) {
		place += 3
		if part.At != here {
			part.At = place
		}
	})
	return n
}

// handRight looks that these statements are a program of those names.
func handRight(t *testing.T, want api.Names, l ...api.Node) {
	t.Helper()
	checks(t, placed(program(l...)), want, 0, api.OK)
}

// handGoes looks that they are one, of some names.
func handGoes(t *testing.T, l ...api.Node) {
	t.Helper()
	n := placed(program(l...))
	if got, at, err := names.Check(n); at != 0 || err != api.OK {
		t.Errorf("Check of %s: %s, %d, %v", tell(n), tell(got), at, err)
	}
}

// handWrong looks that they are wrong first at what is bad, whatever comes behind them.
func handWrong(t *testing.T, l ...api.Node) {
	t.Helper()
	checks(t, placed(program(l...)), api.Names{}, here, api.ErrType)
	checks(t, placed(program(append(slices.Clone(l), let("zz", name("none")), secret("y", "y"))...)), api.Names{}, here, api.ErrType)
}

// P12.2: inputs in loops, as no text has them, are names within the loop, and none behind it.
func TestInputsInLoops(t *testing.T) {
	a := name("a")
	for _, inputs := range []func(...string) api.Node{secret, public} {
		handGoes(t, loop("i", inputs("b", "a"), let("x", bin("+", a, name("b"))), loop("j", let("x", a), inputs("c"), let("y", name("c")))))
		handWrong(t, loop("i", inputs("b", "a"), let("x", a)), let("x", bad(a)))
		handWrong(t, loop("i", let("x", bad(a)), inputs("a")))
		handWrong(t, loop("i", loop("j", inputs("a"), let("x", a)), let("x", bad(a))))
		handWrong(t, loop("i", inputs("a")), loop("i", let("x", bad(a))))
		for _, l := range [][]api.Node{{let("a", num(1)), let("x", a)}, {secret("a"), let("x", a)}, {public("b", "a"), let("x", a)}, {function("a", num(1), "b"), let("x", call("a", num(1)))}, {loop("a", let("x", a))}} {
			handGoes(t, append([]api.Node{loop("i", inputs("a"))}, l...)...)
			handGoes(t, append([]api.Node{loop("i", inputs("a")), loop("j", inputs("a"))}, l...)...)
			handGoes(t, loop("i", append([]api.Node{loop("j", inputs("a"))}, l...)...))
		}
		for _, again := range []api.Node{let("a", num(1)), secret("a"), public("b", "a"), function("a", num(1), "b"), loop("a")} {
			handWrong(t, loop("i", inputs("a"), bad(again)))
			handWrong(t, loop("i", inputs("c", "a"), loop("j", bad(again))))
			handWrong(t, inputs("a"), loop("i", let("x", a)), bad(again))
		}
		handWrong(t, loop("i", bad(inputs("i"))))
		handWrong(t, loop("i", loop("j", bad(inputs("a", "i")))))
		handWrong(t, loop("i", bad(inputs("a", "b", "a"))))
		handWrong(t, loop("i", let("a", num(1)), bad(inputs("b", "a"))))
		handWrong(t, inputs("a"), loop("i", bad(inputs("b", "a"))))
		handGoes(t, inputs("a"), loop("i", inputs("b"), let("x", bin("+", a, name("b")))), let("x", a))
	}
}

// P12.2: functions in loops stay behind them.
func TestFunctionsInLoops(t *testing.T) {
	a, f := function("f", name("a"), "a"), call("f", num(1))
	handGoes(t, loop("i", a, let("x", f)), let("x", f), function("g", call("f", name("a")), "a"), loop("j", let("x", call("g", f))))
	handGoes(t, loop("i", loop("j", loop("k", a), let("x", f)), let("x", f)), let("x", f))
	handWrong(t, loop("i", a), let("x", bad(name("a"))))
	handWrong(t, loop("i", a), let("x", bad(name("f"))))
	handWrong(t, loop("i", a), let("x", bad(call("f", num(1), num(2)))))
	handWrong(t, loop("i", let("x", bad(f)), a))
	for _, again := range []api.Node{let("f", num(1)), secret("f"), public("b", "f"), function("f", num(1), "b"), function("g", num(1), "b", "f"), loop("f")} {
		handWrong(t, loop("i", a), bad(again))
		handWrong(t, loop("i", a, bad(again)))
		handWrong(t, loop("i", loop("j", a)), loop("k", bad(again)))
	}
	// What is a word there is none in its expression; but its parameters may be called so.
	i := name("i")
	handWrong(t, loop("i", function("f", bad(i), "a")))
	handWrong(t, loop("i", secret("b"), function("f", bin("&", name("a"), bad(name("b"))), "a")))
	handWrong(t, loop("i", let("b", i), function("f", bad(name("b")), "a")))
	handGoes(t, loop("i", secret("b"), let("c", i), function("f", bin("+", i, name("b"), name("c")), "i", "b", "c"), let("x", call("f", i, name("b"), name("c")))))
	handWrong(t, loop("i", bad(function("i", num(1), "a"))))
	handWrong(t, loop("i", loop("j", bad(function("i", num(1), "a")))))
	handWrong(t, loop("i", secret("f"), bad(a)))
	handWrong(t, loop("i", let("f", i), bad(a)))
	handGoes(t, loop("i", secret("f"), let("g", i)), a, function("g", num(1), "a"), function("i", num(1), "a"), let("x", bin("+", f, call("g", num(1)), call("i", num(1)))))
}

// P12.2, P12.3: outputs in loops; behind them their names are those of outputs ahead.
func TestOutputsInLoops(t *testing.T) {
	i := name("i")
	handRight(t, api.Names{Outs: outs("o", "p!", "i", "q", "r!")}, loop("i", out("o", i), loop("j", shown("p", name("j")), out("i", i))), out("q", num(1)), loop("o", shown("r", name("o"))))
	for _, again := range []api.Node{out("o", num(1)), shown("o", num(1))} {
		handWrong(t, loop("i", out("o", i)), bad(again))
		handWrong(t, loop("i", shown("o", i), bad(again)))
		handWrong(t, loop("i", loop("j", shown("o", i)), bad(again)))
		handWrong(t, out("o", num(1)), loop("i", loop("j", bad(again))))
	}
	handWrong(t, loop("i", out("o", bad(name("o")))))
	handWrong(t, loop("i", out("o", i)), shown("p", bad(name("o"))))
	handWrong(t, loop("i", out("o", i)), shown("o", bad(i)))
}

// P12.2: nodes of other kinds stand for nothing, wherever they are, whatever names they have.
func TestOtherKinds(t *testing.T) {
	n := name("n")
	for _, k := range []int{0, 13, 14, 15, 99, -1, -2, 1 << 40, -1 << 63} {
		other := api.Node{K: k, S: "n", N: 5, P: []string{"n", "n", "sel"}}
		handRight(t, api.Names{}, other)
		handRight(t, api.Names{Secrets: list("n")}, other, secret("n"), other, let("x", n))
		handRight(t, api.Names{Outs: outs("n")}, loop("i", other, let("n", num(1)), other, let("n", n)), other, out("n", num(1)), other)
		handWrong(t, other, let("x", bad(n)))
		handWrong(t, other, let("x", bad(call("n", num(1)))))
		handRight(t, api.Names{}, let("x", other), let("y", bin("+", other, name("x"))), function("f", un("~", other), "a"), let("x", call("f", other)))
		handWrong(t, let("x", other), let("y", bin("+", other, bad(n))))
	}
	// No statement that is part of an expression names anything.
	for _, part := range []api.Node{{K: 6, P: []string{"n", "x"}}, {K: 7, P: []string{"n", "n"}}, {K: 8, S: "n"}, {K: 9, S: "o"}, {K: 10, S: "n"}, {K: 11, S: "n"}, {K: 12, S: "n", P: []string{"a", "a"}}} {
		handRight(t, api.Names{Outs: outs("o")}, let("x", part), let("x", bin("|", part, name("x"))), out("o", un("-", part)), let("n", part))
		handWrong(t, let("x", part), let("x", bad(n)))
		handWrong(t, let("x", bin("&", part, bad(n))))
		handWrong(t, let("x", part), let("x", bad(call("n", num(1), num(2)))))
	}
	checks(t, api.Node{}, api.Names{}, 0, api.OK)
	checks(t, api.Node{K: 99, S: "a", N: 3, At: 9, P: []string{"a", "a"}}, api.Names{}, 0, api.OK)
}

// P12.2: expressions with other numbers of parts than texts have; each node ahead of its parts.
func TestPartsByHand(t *testing.T) {
	a, none := name("a"), name("none")
	one := let("a", num(1))
	for _, of := range []func(string, ...api.Node) api.Node{un, bin, shift} {
		handGoes(t, one, let("x", of("none")))
		handGoes(t, one, let("x", of("", a)), let("y", of("+", a, name("x"), a, a)))
		handWrong(t, one, let("x", of("+", bad(none))))
		handWrong(t, one, let("x", of("+", a, a, of("", a, bad(none)), none)))
		handWrong(t, one, let("x", of("~", a, a, bad(call("f", none)), none)))
	}
	handWrong(t, one, let("x", name("a", a, bad(none), call("none"))))
	handWrong(t, one, let("x", bad(name("none", none))))
	handGoes(t, one, let("x", name("a", a, name("a", call("sel", a, a, a)))))
	// Functions without parameters, and calls without parts.
	f := api.Node{K: 12, S: "f", L: []api.Node{num(1)}}
	handGoes(t, f, let("x", call("f")), function("g", call("f"), "a"), let("x", call("g", call("f"))))
	handWrong(t, one, f, let("x", bad(call("f", none))))
	handWrong(t, let("x", bad(call("sel"))))
	handWrong(t, let("x", bad(call("f"))), f)
	handWrong(t, api.Node{K: 12, S: "f", L: []api.Node{bad(call("f"))}})
	// Inputs without names.
	handRight(t, api.Names{Publics: list("p")}, secret(), public(), public("p"), secret())
}

// P12.1, P12.2: names that no text has are names as others are.
func TestNamesByHand(t *testing.T) {
	for _, s := range []string{"", " ", "in", "secret", "1", "a b", "+", "\x00", "\xff", "é", "out ", strings.Repeat("n", 33), strings.Repeat("n", 1<<20)} {
		handRight(t, api.Names{Secrets: list(s, "b")}, secret(s, "b"), let("x", name(s)))
		handRight(t, api.Names{Publics: list("b", s), Outs: outs(s)}, public("b", s), out(s, name(s)))
		handRight(t, api.Names{}, let(s, num(1)), let(s, name(s)))
		handRight(t, api.Names{}, function(s, name(s+"a"), s+"a", s+"b"), let("x", call(s, num(1), num(2))))
		handRight(t, api.Names{}, loop(s, let("x", name(s))), loop(s))
		handWrong(t, let("x", bad(name(s))))
		handWrong(t, let("x", bad(call(s))))
		handWrong(t, bad(secret(s, "b", s)))
		handWrong(t, loop(s), let("x", bad(name(s))))
		handWrong(t, let(s, num(1)), bad(loop(s)))
		handWrong(t, out(s, num(1)), bad(shown(s, num(1))))
	}
}

// P12.2: whatever parts are not there, the call ends, and what it tells is names or one error.
func TestPartsThatLack(t *testing.T) {
	for k := -1; k <= 15; k++ {
		for _, l := range [][]api.Node{nil, {}, {{}}, {name("a")}, {name("a"), {}}, {{}, name("a")}, {{}, {}, {}}, {name("a"), name("a"), let("a", num(1))}, {call("f"), let("a", name("b")), {K: 11}}} {
			for _, p := range [][]string{nil, {}, {"a"}, {"n", ""}} {
				n := api.Node{K: k, S: "n", At: 8, P: p, L: l}
				for _, n := range []api.Node{n, program(n), program(loop("i", n)), program(let("x", n)), program(secret("a"), n, n), program(api.Node{K: 11, L: []api.Node{n}}), program(function("f", n, "a"))} {
					got, at, err := names.Check(n)
					if err != api.OK && err != api.ErrType || err == api.OK && at != 0 || err != api.OK && !sameNames(got, api.Names{}) {
						t.Errorf("Check of %s: %s, %d, %v", tell(n), tell(got), at, err)
					}
				}
			}
		}
	}
}

// P12.2: the place is the node's, whatever it is.
func TestPlaces(t *testing.T) {
	for _, place := range []int{0, 1, -1, 7, 20000, 1 << 62, -1 << 63} {
		at := func(n api.Node) api.Node {
			n.At = place
			return n
		}
		for _, n := range []api.Node{let("x", at(name("a"))), at(secret("b", "b")), at(let("sel", num(1))), at(loop("sel")), loop("i", at(let("i", num(1)))), out("o", at(call("sel"))), at(function("f", num(1), "f"))} {
			checks(t, program(n), api.Names{}, place, api.ErrType)
		}
	}
}

// P12.2: as deep as may be, and as many as one likes.
func TestGreatTrees(t *testing.T) {
	const deep = 1 << 15
	n, m := bad(name("b")), name("a")
	for range deep {
		n, m = un("~", n), call("f", bin("+", num(1), m))
	}
	handWrong(t, let("a", num(1)), function("f", name("a"), "a"), let("x", m), let("y", n))
	l := names.Uses(program(n, m))
	if !slices.Equal(l, list("b", "a")) {
		t.Errorf("Uses deep down: %s", tell(l))
	}
	n = let("x", bad(name("t0")))
	m = let("x", name("t0"))
	for k := range deep {
		i := fmt.Sprint("i", k)
		n, m = loop(i, let(fmt.Sprint("t", k+1), name(i)), n), loop(i, let("t0", name(i)), m, let("t0", name(i)))
	}
	handWrong(t, m, n)
	var p []string
	var lets []api.Node
	for k := range 100000 {
		p = append(p, fmt.Sprint("p", k))
		lets = append(lets, let(fmt.Sprint("v", k), name(p[k])))
	}
	handRight(t, api.Names{Secrets: p}, secret(p...), loop("i", lets...), loop("i", lets...), function("f", num(1), p...))
	handWrong(t, bad(secret(append(slices.Clone(p), p[0])...)))
	if l := names.Uses(program(lets...)); !slices.Equal(l, p) {
		t.Errorf("Uses of many: %d of them", len(l))
	}
}

// uses looks that Uses tells just that of n.
func uses(t *testing.T, n api.Node, want ...string) {
	t.Helper()
	ahead := copied(n)
	if got := names.Uses(n); !slices.Equal(got, want) {
		t.Errorf("Uses of %s: %s, not %s", tell(n), tell(got), tell(want))
	}
	if !reflect.DeepEqual(n, ahead) {
		t.Errorf("Uses made %s of %s", tell(n), tell(ahead))
	}
}

// P12.3: Uses of each kind of node: what stands there as EName, and nothing else.
func TestUses(t *testing.T) {
	a, b := name("a"), name("b")
	uses(t, api.Node{})
	uses(t, num(7))
	uses(t, a, "a")
	uses(t, name(""), "")
	uses(t, name("a", b, a), "a", "b")
	uses(t, name("a", name("c", b), name("d", name("e"), b)), "a", "c", "b", "d", "e")
	for k := -1; k <= 15; k++ {
		if k == api.EName {
			continue
		}
		n := api.Node{K: k, S: "n", N: 3, P: []string{"p", "a", "q"}}
		uses(t, n)
		uses(t, program(n, n))
		n.L = []api.Node{b, n, a, b, name("n")}
		uses(t, n, "b", "a", "n")
		uses(t, program(loop("i", n), a, name("p"), n), "b", "a", "n", "p")
	}
}

// P12.3: Uses of texts: each name once, in the order in which they first stand.
func TestUsesOfTexts(t *testing.T) {
	for s, want := range map[string]string{
		"":                                      "",
		"secret a, b; public c;":                "",
		"x = 1;":                                "",
		"x = y;":                                "y",
		"out o = a;":                            "a",
		"show o = o;":                           "o",
		"fn f(a, b) = b;":                       "b",
		"fn f(a) = f(1);":                       "",
		"for i in a .. b { }":                   "a b",
		"for i in 0 .. 1 { x = y; }":            "y",
		"for i in b .. a { c = b + i; d = c; }": "b a i c",
		"x = c + b + a + b + c;":                "c b a",
		"x = a; y = a; a = x;":                  "a x",
		"x = ~-(a | (1 << b) & ~c) ^ sel(a, d, ~sel(b, e, 2)); out p = x - q; secret z;": "a b c d e x q",
		"x = Ab + aB + ab + AB + a_b;": "Ab aB ab AB a_b",
		"for i in 0 .. 1 { for j in i .. i + k { for k in m .. j { x = n; } } } z = i;": "i k m j n",
	} {
		uses(t, tree(t, s), strings.Fields(want)...)
	}
	for s, want := range map[string]string{"1": "", "a": "a", "a + b + a": "a b", "f(a)": "a", "sel(c, b, a)": "c b a", "-~b << (a & b)": "b a", "((a)) - f(1, a, g(b))": "a b"} {
		n, at, err := parse.Expr(s)
		if err != api.OK {
			t.Fatalf("parse.Expr(%q): %d, %v", s, at, err)
		}
		uses(t, n, strings.Fields(want)...)
	}
	// As many as may be, and each many times.
	var l []string
	for k := range 400 {
		l = append(l, fmt.Sprint("n", 7*k%400))
	}
	uses(t, tree(t, "x="+strings.Join(slices.Concat(l, l, l), "+")+";"), l...)
}

// P12.4: a program without one of its outputs has the names that it had, but that one; what is wrong elsewhere is wrong as it was.
func withoutOutputs(t *testing.T, n api.Node) {
	t.Helper()
	all, at, err := names.Check(n)
	for k, statement := range n.L {
		if statement.K != api.SOut && statement.K != api.SShow {
			continue
		}
		less := n
		less.L = slices.Delete(slices.Clone(n.L), k, k+1)
		if err == api.OK {
			want := all
			want.Outs = slices.DeleteFunc(slices.Clone(all.Outs), func(l api.Label) bool { return l.Name == statement.S })
			checks(t, less, want, 0, api.OK)
			continue
		}
		// What is wrong may be in it, or be its name, when it comes again.
		own := false
		each(&statement, func(part *api.Node) { own = own || part.At == at })
		for _, later := range n.L[k:] {
			own = own || later.At == at && later.S == statement.S
		}
		if !own {
			checks(t, less, api.Names{}, at, err)
		}
	}
}

// P12.4: of programs that are right, and of ones that are wrong somewhere.
func TestLeftOut(t *testing.T) {
	for _, s := range []string{
		"out o = 1;", "show o = 1;", "secret a; out o = a; show p = a + 1; out q = a; public b; show r = b;", "out a = 1; a = 2; show b = a; out c = a;",
		"secret k; fn f(a) = a; out f = f(k); for i in 0 .. 2 { t = f(i); } out i = 1; out t = 2; t = 3; show sel = sel(t, k, k);",
		"out o = 1; x = o;", "show o = 1; out p = 2; secret a, a;", "out o = 1; x = f(1); show p = 1;", "out o = 1; out p = 2; show o = 3;", "x = y; out o = 1;", "out o = 1; for i in 0 .. 1 { i = 1; }",
	} {
		withoutOutputs(t, tree(t, s))
	}
}

// What is handed in is neither changed nor kept, its spare room included; answers share nothing.
func TestMemory(t *testing.T) {
	spare := func(l ...string) []string {
		return append(append(make([]string, 0, len(l)+3), l...), "spare", "spare", "spare")[:len(l)]
	}
	a, b := secret(spare("a", "b")...), public(spare("c")...)
	l := append(make([]api.Node, 0, 9), a, b, secret(spare("d")...), function("f", num(1), spare("x", "y")...), loop("i", let("t", name("a"))), out("o", call("f", name("d"), num(1))))
	n := program(l...)
	n.L = l
	ahead := copied(program(l[:cap(l)]...))
	got, _, err := names.Check(n)
	again, _, _ := names.Check(n)
	uses, more := names.Uses(n), names.Uses(n)
	want := api.Names{Secrets: list("a", "b", "d"), Publics: list("c"), Outs: outs("o")}
	if !sameNames(got, want) || err != api.OK || !slices.Equal(uses, list("a", "d")) {
		t.Fatalf("Check of %s: %s, %v; Uses: %s", tell(n), tell(got), err, tell(uses))
	}
	for _, l := range [][]string{got.Secrets, got.Publics, uses} {
		for k := range cap(l) {
			l[:cap(l)][k] = "changed"
		}
	}
	clear(got.Outs[:cap(got.Outs)])
	if !reflect.DeepEqual(program(l[:cap(l)]...), ahead) || !sameNames(again, want) || !slices.Equal(more, list("a", "d")) {
		t.Errorf("behind changes of what was answered: %s, %s, %s", tell(n), tell(again), tell(more))
	}
	for _, p := range [][]string{a.P, b.P, l[2].P, l[3].P} {
		if rest := p[len(p):cap(p)]; !slices.Equal(rest, list("spare", "spare", "spare")) {
			t.Errorf("spare room is %s", tell(rest))
		}
	}
	// What is changed later in the tree is not seen in answers.
	a.P[0], b.P[0], l[5].S = "x", "y", "z"
	if !sameNames(again, want) {
		t.Errorf("behind changes of the tree: %s", tell(again))
	}
}

// What is known of one program is not known in the next one.
func TestFromArgumentsAlone(t *testing.T) {
	for range 2 {
		goes(t, "secret a; fn f(x) = x; b = a; out o = f(b);")
		wrong(t, "x = @a;")
		wrong(t, "x = @b;")
		wrong(t, "x = @f(1);")
		goes(t, "public b; a = 1; f = 2; show o = 3;")
		wrong(t, "secret a; fn f(x) = x; @secret b, a;")
		goes(t, "for i in 0 .. 1 { a = i; }")
		wrong(t, "for i in 0 .. 1 { a = i; b = @c; }")
		goes(t, "for i in 0 .. 1 { b = i; } c = 1; a = c;")
	}
}
