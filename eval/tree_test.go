package eval_test

import (
	"fmt"
	"reflect"
	"slices"
	"testing"

	"bauta/api"
	"bauta/eval"
	"bauta/flow"
)

// Nodes as the document has them, kinds in numbers.
func num(n uint32) api.Node                  { return api.Node{K: 0, N: n} }
func name(s string) api.Node                 { return api.Node{K: 1, S: s} }
func un(s string, l ...api.Node) api.Node    { return api.Node{K: 2, S: s, L: l} }
func bin(s string, l ...api.Node) api.Node   { return api.Node{K: 3, S: s, L: l} }
func shift(s string, l ...api.Node) api.Node { return api.Node{K: 4, S: s, L: l} }
func call(s string, l ...api.Node) api.Node  { return api.Node{K: 5, S: s, L: l} }
func secret(p ...string) api.Node            { return api.Node{K: 6, P: p} }
func public(p ...string) api.Node            { return api.Node{K: 7, P: p} }
func out(s string, l ...api.Node) api.Node   { return api.Node{K: 8, S: s, L: l} }
func shown(s string, l ...api.Node) api.Node { return api.Node{K: 9, S: s, L: l} }
func let(s string, l ...api.Node) api.Node   { return api.Node{K: 10, S: s, L: l} }
func program(l ...api.Node) api.Node         { return api.Node{K: 13, L: l} }

// loop goes from 0 to below that.
func loop(s string, to uint32, l ...api.Node) api.Node {
	return api.Node{K: 11, S: s, L: append([]api.Node{num(0), num(to)}, l...)}
}

func function(s string, a api.Node, p ...string) api.Node {
	return api.Node{K: 12, S: s, L: []api.Node{a}, P: p}
}

func sameNode(a, b api.Node) bool { return reflect.DeepEqual(a, b) }

// hand looks that just these words come of statements that no text is read as, of the secrets 1, 2, 3 .. and the publics 101, 102 ..
func hand(t *testing.T, want []uint32, l ...api.Node) {
	t.Helper()
	secrets, publics := make([]uint32, 20), make([]uint32, 20)
	for k := range uint32(20) {
		secrets[k], publics[k] = k+1, k+101
	}
	runs(t, program(l...), secrets, publics, want, 0, api.OK)
}

// P14.1: outputs in loops: one word a round, in order.
func TestOutputsInLoops(t *testing.T) {
	a, p, i, j, x := name("a"), name("p"), name("i"), name("j"), name("x")
	hand(t, words(0, 1, 2), loop("i", 3, out("o", i)))
	hand(t, words(101, 101, 9), public("p"), loop("i", 2, shown("o", p)), out("q", num(9)))
	hand(t, nil, loop("i", 0, out("o", i)))
	hand(t, words(7, 1, 0, 2, 2, 4, 4, 8), secret("a"), out("n", num(7)), loop("i", 3, out("o", shift("<<", a, i)), shown("s", bin("+", i, i))), out("m", num(8)))
	hand(t, words(0, 1, 5, 10, 11, 5, 20, 21, 5, 9), loop("i", 3, loop("j", 2, out("o", bin("+", shift("<<", bin("+", bin("+", i, i), bin("+", i, shift("<<", i, num(1)))), num(1)), j))), out("p", num(5))), out("q", num(9)))
	hand(t, words(3, 1, 1, 4), secret("a"), let("x", num(3)), loop("i", 3, out("o", x), let("x", a)), out("p", num(4)))
	hand(t, words(0, 0, 1, 0, 1, 2, 7), loop("i", 4, api.Node{K: 11, S: "j", L: []api.Node{num(0), i, out("o", j)}}), shown("p", num(7)))
}

// P14.1: inputs in loops take a word a round, and none in a loop of no round; functions in loops are there behind them.
func TestStatementsInLoops(t *testing.T) {
	a, p, x := name("a"), name("p"), name("x")
	hand(t, words(1, 2, 3, 104, 4), loop("i", 3, secret("a"), out("o", a)), loop("i", 3, public("p"), let("t", p)), public("p"), secret("a"), out("q", p), out("r", a))
	hand(t, words(1), loop("i", 0, secret("b")), secret("a"), out("o", a))
	hand(t, words(1<<32-100, 1<<32-100), let("x", num(7)), loop("i", 2, secret("a"), public("p"), let("x", bin("-", a, p)), out("o", x)))
	for _, rounds := range []uint32{0, 1, 3} {
		hand(t, words(2, 4), secret("a"), loop("i", rounds, loop("j", rounds, function("f", bin("+", x, x), "x"))), out("o", call("f", a)), out("p", call("f", num(2))))
	}
	hand(t, words(1, 1, 1), function("f", num(1)), secret("a"), let("x", call("f")), out("o", a), out("p", x), out("q", call("f")))
	hand(t, words(7), api.Node{K: 12, S: "f", L: []api.Node{call("sel", num(1), num(7), num(6))}, P: nil}, out("o", call("f")))
}

// Parts of expressions that no text has: what isn't there is the number 0, and what there is none of is 0.
func TestPartsByHand(t *testing.T) {
	a, five := name("a"), num(5)
	odd := func(k int, s string, l ...api.Node) api.Node {
		return api.Node{K: k, S: s, N: 9, L: l, P: []string{"a"}}
	}
	for _, of := range []struct {
		n    api.Node
		want uint32
	}{
		{odd(0, "a", a, a), 9}, {odd(1, "a", five), 1}, {odd(99, "+", a, five), 0}, {odd(-1, "a", a), 0}, {odd(13, "", a), 0}, {odd(8, "o", a), 0}, {un("+", a), 0}, {un("", a), 0}, {bin("~", a, a), 0}, {bin("<<", a, five), 0}, {bin("*", a, five), 0}, {shift("+", a, five), 0}, {shift(">>>", a, five), 0},
		{un("~"), 1<<32 - 1}, {un("-"), 0}, {un("-", five, a), 1<<32 - 5}, {bin("-"), 0}, {bin("-", five), 5}, {bin("-", five, a, five), 4}, {shift("<<"), 0}, {shift("<<", five), 5}, {shift("<<", five, num(1), num(7)), 10}, {api.Node{}, 0}, {odd(2, "~", num(0)), 1<<32 - 1}, {shift("<<<", five, odd(0, "~", five)), 5 << 9},
	} {
		for _, n := range []api.Node{of.n, call("f", of.n), call("sel", num(1<<32-1), of.n, a), bin("^", of.n, num(0))} {
			hand(t, words(of.want, 1, of.want, of.want), secret("a"), function("f", name("x"), "x"), out("o", n), let("x", n), out("p", a), out("q", name("x")), loop("i", 1, out("r", call("f", name("x")))))
		}
	}
	hand(t, words(0, 0, 0, 0), let("x"), out("o"), shown("p"), api.Node{K: 12, S: "f"}, out("q", call("f")), out("r", name("x")), api.Node{K: 11, S: "i"}, api.Node{K: 11, S: "i", L: []api.Node{num(3)}})
	hand(t, words(3), let("x", num(3), num(4)), api.Node{K: 98, S: "x", L: []api.Node{num(1)}}, out("o", name("x"), num(5)), five, a, un("~", five), api.Node{K: -5, L: []api.Node{out("p", five)}})
	// What kind the whole is, is of no matter.
	for _, k := range []int{0, 6, 8, 12, 13, 99, -1} {
		runs(t, api.Node{K: k, S: "o", P: []string{"z"}, L: []api.Node{secret("a"), out("o", a)}}, words(4), nil, words(4), 0, api.OK)
	}
	runs(t, api.Node{}, words(4), words(5), nil, 0, api.OK)
	runs(t, out("o", five), nil, nil, nil, 0, api.OK)
}

// P14.1: whatever parts are not there, or are there as none are read, the call ends: with flow's error, or a word for each output.
func TestPartsThatLack(t *testing.T) {
	a := name("a")
	for k := -1; k <= 15; k++ {
		for _, l := range [][]api.Node{nil, {}, {{}}, {a}, {a, {}}, {{}, a}, {{}, {}, {}}, {a, a, let("a", num(1))}, {call("sel", a, a, a), let("a", a), {K: 11}}, {{}, num(2), let("x", a), out("x", a)}, {num(1), num(2), num(3), a}} {
			for _, p := range [][]string{nil, {}, {"a"}, {"n", ""}} {
				for _, s := range []string{"n", "+", "~", "<<", "sel"} {
					n := api.Node{K: k, S: s, At: 8, P: p, L: l}
					for _, n := range []api.Node{n, program(n), program(loop("i", 2, n)), program(secret("a"), let("x", n), out("o", name("x"))), program(secret("a"), n, n), program(secret("a"), let("x", shift("<<", n, n))), program(secret("a"), api.Node{K: 11, L: []api.Node{n}}), program(secret("a"), api.Node{K: 11, L: []api.Node{num(0), n, n}}), program(function("f", n, "a"), out("x", call("f", num(1))))} {
						ahead := copied(n)
						labels, place, e := flow.Check(n)
						got, at, err := eval.Run(n, words(5), words(6))
						if at != place || err != e || len(got) != len(labels) {
							t.Errorf("Run of %s: %s, %d, %v, not %d, %v", tell(n), tell(got), at, err, place, e)
						}
						if !reflect.DeepEqual(n, ahead) {
							t.Errorf("Run made %s of %s", tell(n), tell(ahead))
						}
					}
				}
			}
		}
	}
}

// P14.1: the place is the node's, whatever it is.
func TestPlaces(t *testing.T) {
	for _, place := range []int{0, 1, -1, 7, 20000, 1 << 62, -1 << 63} {
		at := func(n api.Node) api.Node {
			n.At = place
			return n
		}
		a, two := secret("a"), out("two", num(2))
		runs(t, program(a, two, let("x", shift("<<", num(1), at(name("a"))))), words(1), nil, nil, place, api.ErrFlow)
		runs(t, program(a, two, at(shown("o", name("a")))), words(1), nil, nil, place, api.ErrFlow)
		runs(t, program(a, two, let("x", shift("<<", num(1), at(call("sel", num(1), num(1), num(1)))))), words(1), nil, nil, place, api.ErrType)
		runs(t, program(two, at(loop("i", 2001, out("o", num(1))))), nil, nil, nil, place, api.ErrResource)
		runs(t, program(two, out("o", at(name("a")))), nil, nil, nil, place, api.ErrType)
	}
}

// P14.1, P14.2: as deep as may be, and as many as one likes.
func TestGreatTrees(t *testing.T) {
	const deep = 1 << 15
	n, m, l := name("a"), name("a"), num(1)
	for k := range uint32(deep) {
		n, m, l = un("-", n), bin("+", bin("^", num(1), m), num(k)), shift("<<<", l, num(1))
	}
	x := uint32(1)
	for k := range uint32(deep) {
		x = (1 ^ x) + k
	}
	hand(t, words(1, x, 1, 1<<30, 1<<31), secret("a"), out("o", n), out("p", m), out("q", l), loop("i", 2, out("r", shift("<<", n, bin("+", bin("-", shift("<<<", l, num(5)), num(2)), name("i"))))))
	inner := let("x", bin("+", name("x"), num(1)))
	for k := range 1000 {
		s := fmt.Sprint("i", k)
		inner = loop(s, 1, loop("j", 0), let("x", bin("+", name("x"), shift("<<", name(s), name(s)))), let(fmt.Sprint("t", k), num(1)), inner)
	}
	hand(t, words(8), let("x", num(7)), inner, out("o", name("x")))
	var p []string
	var lets, outs []api.Node
	var given, want []uint32
	for k := range 100000 {
		p = append(p, fmt.Sprint("p", k))
		lets = append(lets, let(fmt.Sprint("v", k), un("~", name(p[k]))))
		outs = append(outs, out(fmt.Sprint("o", k), name(fmt.Sprint("v", k))))
		given = append(given, uint32(k*k))
		want = append(want, ^uint32(k*k))
	}
	runs(t, program(slices.Concat([]api.Node{secret(p...)}, lets, []api.Node{loop("i", 1900, let("x", name("v7")))}, outs)...), given, nil, want, 0, api.OK)
	runs(t, program(slices.Concat([]api.Node{public(p...)}, lets, []api.Node{loop("i", 1900, let("x", name("v7")))}, outs)...), given, given, want, 0, api.OK)
}
