package circ_test

import (
	"fmt"
	"reflect"
	"slices"
	"testing"

	"bauta/api"
	"bauta/circ"
	"bauta/flow"
)

// Nodes as the document has them, kinds in numbers.
func num(n uint32) api.Node                  { return api.Node{K: 0, N: n} }
func name(s string) api.Node                 { return api.Node{K: 1, S: s} }
func un(s string, l ...api.Node) api.Node    { return api.Node{K: 2, S: s, L: l} }
func bin(s string, l ...api.Node) api.Node   { return api.Node{K: 3, S: s, L: l} }
func shift(s string, l ...api.Node) api.Node { return api.Node{K: 4, S: s, L: l} }
func call(s string, l ...api.Node) api.Node  { return api.Node{K: 5, S: s, L: l} }
func secret(p ...string) api.Node            { return api.Node{K: 6, P: p} }
func public(p ...string) api.Node            { return api.Node{K: 7, P: p} }
func out(s string, l ...api.Node) api.Node   { return api.Node{K: 8, S: s, L: l} }
func shown(s string, l ...api.Node) api.Node { return api.Node{K: 9, S: s, L: l} }
func let(s string, l ...api.Node) api.Node   { return api.Node{K: 10, S: s, L: l} }
func program(l ...api.Node) api.Node         { return api.Node{K: 13, L: l} }

// loop goes from 0 to below that.
func loop(s string, to uint32, l ...api.Node) api.Node {
	return api.Node{K: 11, S: s, L: append([]api.Node{num(0), num(to)}, l...)}
}

func function(s string, a api.Node, p ...string) api.Node {
	return api.Node{K: 12, S: s, L: []api.Node{a}, P: p}
}

// hand looks that just that circuit, as the tests write it, comes of statements.
func hand(t *testing.T, want string, l ...api.Node) {
	t.Helper()
	built(t, program(l...), circuit(t, want), 0, api.OK)
}

// P15.3: what texts are read as, by hand.
func TestTrees(t *testing.T) {
	a, x := name("a"), name("x")
	hand(t, "s0* ~0* o=1", secret("a"), out("o", un("~", a)))
	hand(t, "p0 #7 0+1 2<<3 #0 4-3 q=5", public("a"), let("x", bin("+", a, num(7))), shown("q", un("-", shift("<<", x, num(3)))))
	hand(t, "s0* p0 #1 0^2* 1&3* 2^4* o=5", secret("a"), public("p"), function("f", call("sel", name("y"), x, num(1)), "x", "y"), out("o", call("f", a, name("p"))))
	for k := -3; k <= 20; k++ {
		// Whatever kind the whole is.
		n := program(secret("a"), out("o", a))
		n.K, n.S, n.N, n.At, n.P = k, "o", 9, 77, []string{"z"}
		built(t, n, circuit(t, "s0* o=0"), 0, api.OK)
	}
	built(t, api.Node{}, api.Circuit{}, 0, api.OK)
	built(t, out("o", num(5)), api.Circuit{}, 0, api.OK)
}

// P15.3: inputs and outputs in loops: one of each round, as it runs.
func TestInputsInLoops(t *testing.T) {
	hand(t, "s0* s1* s2*", loop("i", 3, secret("a")))
	hand(t, "p0 s0* p1 s1* p2 s2*", loop("i", 3, public("b"), secret("a")))
	hand(t, "s0* p0 p1 s1* s2* p2 p3 s3* s4* s5* o=9", secret("z"), loop("i", 2, public("p", "q"), secret("a", "b")), secret("c"), out("o", name("c")))
	hand(t, "s0* s1* #7 1+2* s2* #7 4+5* s3* o=7", loop("i", 0, secret("a")), secret("a"), loop("i", 2, secret("b"), let("x", bin("+", name("b"), num(7)))), secret("b"), out("o", name("b")))
	hand(t, "s0* s1* s2* s3*", loop("i", 2, loop("j", 2, secret("a"))))
	hand(t, "#0 0<<3 #1 2<<3", loop("i", 2, let("x", shift("<<", name("i"), num(3)))))
	built(t, program(public("p"), loop("i", 1, out("o", name("p")))), circuit(t, "p0 o=0"), 0, api.OK)
	n := program(secret("s"), loop("i", 3, out("o", bin("+", name("s"), name("i")))), shown("p", num(4)))
	built(t, n, circuit(t, "s0* #0 0+1* #1 0+3* #2 0+5* #4 o=2 o=4 o=6 p=7"), 0, api.OK)
	// The bound of all gates, within them.
	at := func(place int, n api.Node) api.Node {
		n.At = place
		return n
	}
	built(t, program(loop("i", 1000, at(5, secret("a")))), circuit(t, inputs(1000)), 0, api.OK)
	built(t, program(loop("i", 1001, at(5, secret("a")))), api.Circuit{}, 5, api.ErrResource)
	built(t, program(loop("i", 500, at(5, public("a", "b")), at(6, let("x", name("a"))), at(7, out("o", name("x"))))), circuit(t, publics(1000, 500)), 0, api.OK)
	built(t, program(loop("i", 501, at(5, public("a", "b")), at(6, let("x", name("a"))))), api.Circuit{}, 5, api.ErrResource)
	built(t, program(loop("i", 334, at(5, public("a", "b")), at(6, let("x", name("a"))), at(7, out("o", un("~", name("x")))))), api.Circuit{}, 5, api.ErrResource)
	built(t, program(public("z"), loop("i", 334, at(5, public("a", "b")), at(6, let("x", name("a"))), at(7, shown("o", un("~", name("x")))))), api.Circuit{}, 5, api.ErrResource)
	built(t, program(public("y", "z"), loop("i", 334, at(5, public("a")), at(6, let("x", name("a"))), at(7, shown("o", un("~", un("~", name("x"))))))), api.Circuit{}, 7, api.ErrResource)
}

// inputs are so many secret ones.
func inputs(many int) string {
	s := ""
	for k := range many {
		s += fmt.Sprintf("s%d* ", k)
	}
	return s
}

// publics are so many other ones, and outputs of every second one.
func publics(many, outs int) string {
	s := ""
	for k := range many {
		s += fmt.Sprintf("p%d ", k)
	}
	for k := range outs {
		s += fmt.Sprintf("o=%d ", 2*k)
	}
	return s
}

// P15.3: a function is there behind the loop that it is in, whatever rounds that has.
func TestFunctionsInLoops(t *testing.T) {
	for rounds := range uint32(3) {
		hand(t, "#1 ~0 o=1", loop("i", rounds, function("f", un("~", name("x")), "x")), out("o", call("f", num(1))))
		hand(t, "#1 ~0 o=1", loop("i", rounds, loop("j", 2-rounds, function("f", un("~", name("x")), "x"))), out("o", call("f", num(1))))
	}
	hand(t, "#5 ~0 #5 ~2 #7 ~4 o=5", loop("i", 2, function("f", un("~", name("i")), "i"), let("x", call("f", num(5)))), out("o", call("f", num(7))))
	hand(t, "#9 #9 o=0 p=1", function("f", num(9)), out("o", call("f")), out("p", call("f")))
}

// P15.3: what isn't there is the number 0, what is too much nothing, and a node or a sign that there is none of is 0.
func TestOddParts(t *testing.T) {
	a := name("a")
	hand(t, "s0* #0 o=1", secret("a"), out("o"))
	hand(t, "s0* #0 o=1", secret("a"), let("x"), out("o", name("x")))
	hand(t, "s0* o=0", secret("a"), out("o", a, num(1), num(2)))
	hand(t, "s0* #0 ~1 o=2", secret("a"), out("o", un("~")))
	hand(t, "s0* ~0* o=1", secret("a"), out("o", un("~", a, num(1))))
	hand(t, "s0* #0 0+1* o=2", secret("a"), out("o", bin("+", a)))
	hand(t, "s0* 0+0* o=1", secret("a"), out("o", bin("+", a, a, num(1))))
	hand(t, "s0* 0<<0* 0>>0* 0<<<0* o=1 p=2 q=3", secret("a"), out("o", shift("<<", a)), out("p", shift(">>", a)), out("q", shift("<<<", a)))
	hand(t, "s0* #0 1<<0 o=2", secret("a"), out("o", shift("<<")))
	hand(t, "#0 o=0", function("f", name("x"), "x"), out("o", api.Node{K: 0, L: []api.Node{num(3)}}))
	hand(t, "s0* o=0", secret("a"), out("o", api.Node{K: 1, S: "a", N: 7, L: []api.Node{num(3)}}))
	hand(t, "#0 o=0", api.Node{K: 12, S: "f"}, out("o", call("f")))
	hand(t, "s0* #0 o=1", secret("a"), api.Node{K: 11, S: "i"}, api.Node{K: 11, S: "i", L: []api.Node{num(4)}}, out("o"))
	hand(t, "s0*", secret("a"), secret(), public())
	for _, k := range []int{-1, 6, 7, 8, 9, 10, 11, 12, 13, 14, 99} {
		n := api.Node{K: k, S: "+", N: 7, P: []string{"q"}, L: []api.Node{a, a}}
		hand(t, "s0* #0 1+0* o=2", secret("a"), out("o", bin("+", n, a)))
	}
	for _, s := range []string{"", "~~", "*", "<<", "a", "sel", "&&"} {
		hand(t, "s0* #0 o=1", secret("a"), out("o", un(s, a)))
		hand(t, "s0* ~0* #0 o=2", secret("a"), out("o", bin(s, un("~", a), a)))
	}
	for _, s := range []string{"", "<", ">>>", "+", "a"} {
		hand(t, "s0* ~0* #0 o=2", secret("a"), out("o", shift(s, un("~", a), num(1))))
	}
}

// P15.3: statements that there are none of, whatever is below them.
func TestOddStatements(t *testing.T) {
	for _, k := range []int{-1, 0, 1, 2, 3, 4, 5, 13, 14, 99} {
		n := api.Node{K: k, S: "x", N: 7, P: []string{"q"}, L: []api.Node{secret("b"), let("x", num(1)), function("g", num(1), "x"), out("p", num(1))}}
		hand(t, "s0* s1* o=1", secret("a"), n, loop("i", 2, n), secret("b"), out("o", name("b")))
	}
}

// P15.3, P15.4: whatever parts are not there, or are there as none are read, the call ends: with flow's error, or a circuit that can be, and is right.
func TestPartsThatLack(t *testing.T) {
	a := name("a")
	found := 0
	for k := -1; k <= 15; k++ {
		for _, l := range [][]api.Node{nil, {}, {{}}, {a}, {a, {}}, {{}, a}, {{}, {}, {}}, {a, a, let("a", num(1))}, {call("sel", a, a, a), let("a", a), {K: 11}}, {{}, num(2), let("x", a), out("x", a)}, {num(1), num(2), num(3), a}} {
			for _, p := range [][]string{nil, {}, {"a"}, {"n", ""}} {
				for _, s := range []string{"n", "+", "~", "<<", "sel"} {
					n := api.Node{K: k, S: s, N: 3, At: 8, P: p, L: l}
					for _, n := range []api.Node{n, program(n), program(loop("i", 2, n)), program(secret("a"), let("x", n), out("o", name("x"))), program(secret("a"), n, n), program(secret("a"), let("x", shift("<<", n, n))), program(secret("a"), api.Node{K: 11, L: []api.Node{n}}), program(secret("a"), api.Node{K: 11, L: []api.Node{num(0), n, n}}), program(function("f", n, "a"), out("x", call("f", num(1))))} {
						labels, place, e := flow.Check(n)
						ahead := copied(n)
						c, at, err := circ.Build(n)
						if at != place || err != e || len(c.Outs) != len(labels) || e != api.OK && !alike(c, api.Circuit{}) {
							t.Errorf("Build of %s: %s, %d, %v, not %d, %v", tell(n), tell(c), at, err, place, e)
						}
						if !reflect.DeepEqual(n, ahead) {
							t.Errorf("Build made %s of %s", tell(n), tell(ahead))
						}
						if e == api.OK {
							found++
							right(t, n, c)
						}
					}
				}
			}
		}
	}
	if found < 5000 {
		t.Errorf("just %d", found)
	}
}

// P15.3: the place is the node's, whatever it is.
func TestPlaces(t *testing.T) {
	for _, place := range []int{0, 1, -1, 7, 20000, 1 << 62, -1 << 63} {
		at := func(n api.Node) api.Node {
			n.At = place
			return n
		}
		a := secret("a")
		full := loop("i", 999, let("t", num(1)))
		built(t, program(a, let("x", shift("<<", num(1), at(name("a"))))), api.Circuit{}, place, api.ErrFlow)
		built(t, program(a, at(shown("o", name("a")))), api.Circuit{}, place, api.ErrFlow)
		built(t, program(at(loop("i", 2001, let("t", num(1))))), api.Circuit{}, place, api.ErrResource)
		for _, n := range []api.Node{secret("b"), public("b"), let("x", num(3)), out("o", un("~", name("a"))), shown("o", num(3))} {
			built(t, program(a, full, at(n), let("x", num(5))), api.Circuit{}, place, api.ErrResource)
			if n.K != 8 && n.K != 9 {
				built(t, program(a, full, loop("j", 3, at(n), let("x", num(5)))), api.Circuit{}, place, api.ErrResource)
			}
		}
		n := loop("i", 1001, at(let("x", at(num(5)))))
		n.At, n.L[2].L[0].At = 3, 4
		built(t, program(n), api.Circuit{}, place, api.ErrResource)
	}
}

// What is handed in is not changed, its spare room neither, and no circuit has any of it.
func TestSpareRoomOfTrees(t *testing.T) {
	parts := []api.Node{name("a"), num(1), num(77), num(78)}
	names := []string{"a", "b", "c", "d"}
	l := []api.Node{{K: 6, P: names[:2]}, loop("i", 2, let("x", call("f", name("i")))), {K: 8, S: "o", L: parts[:1]}, {K: 8, S: "q", L: []api.Node{{K: 3, S: "-", L: parts[:2]}}}, let("y"), let("z")}
	l[1].L[2].L[0] = call("sel", slices.Clone(parts)[:3]...)
	ahead := []any{slices.Clone(parts), slices.Clone(names), copied(program(l...))}
	c, at, err := circ.Build(program(l[:4]...))
	want := circuit(t, "s0* s1* #1 #77 2^3 0&4* 3^5* #1 #77 7^8 0&9* 8^10* #1 0-12* o=0 q=13")
	if !alike(c, want) || at != 0 || err != api.OK {
		t.Errorf("Build: %s, %d, %v", tell(c), at, err)
	}
	gates, outs := c.Gates[:cap(c.Gates)], c.Outs[:cap(c.Outs)]
	clear(gates)
	clear(outs)
	if !reflect.DeepEqual(ahead, []any{parts, names, program(l...)}) {
		t.Errorf("Build changed what it was handed to %s", tell(program(l...)))
	}
	if c, _, _ = circ.Build(program(l[:4]...)); !alike(c, want) {
		t.Errorf("Build, again: %s", tell(c))
	}
}

// P15.3, P15.4: as deep as may be, and as many as one likes.
func TestGreatTrees(t *testing.T) {
	const deep = 1 << 15
	n, l := name("a"), num(1)
	for range deep {
		n, l = un("~", n), shift("<<<", l, num(1))
	}
	at := func(n api.Node) api.Node {
		n.At = 9
		return n
	}
	built(t, program(secret("a"), at(out("o", n))), api.Circuit{}, 9, api.ErrResource)
	hand(t, "#1 0<<4 o=1", out("o", shift("<<", num(1), bin("+", l, num(3)))))
	m := name("a")
	for range 999 {
		m = un("~", m)
	}
	hand(t, "s0* "+turns(999)+"o=999", secret("a"), out("o", m))
	built(t, program(public("b"), secret("a"), at(out("o", m))), api.Circuit{}, 9, api.ErrResource)
	// A word that no gate is made of, however many there are.
	inner := let("x", bin("+", name("x"), num(1)))
	for k := range 300 {
		inner = loop(fmt.Sprint("i", k), 1, loop("j", 0), let("x", name("x")), let(fmt.Sprint("t", k), name("x")), inner)
	}
	hand(t, "#7 #1 0+1 o=2", let("x", num(7)), inner, out("o", name("x")))
	var lets []api.Node
	want := "s0*"
	for k := range 20000 {
		lets = append(lets, let(fmt.Sprint("v", k), name("a")), out(fmt.Sprint("o", k), name(fmt.Sprint("v", k))))
		want += fmt.Sprintf(" o%d=0", k)
	}
	hand(t, want, append([]api.Node{secret("a"), loop("i", 1900, let("x", name("a")))}, lets...)...)
}

// turns are so many gates, each of the one ahead turned.
func turns(many int) string {
	s := ""
	for k := range many {
		s += fmt.Sprintf("~%d* ", k)
	}
	return s
}
