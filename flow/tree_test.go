package flow_test

import (
	"fmt"
	"reflect"
	"slices"
	"testing"

	"bauta/api"
	"bauta/flow"
)

// Nodes as the document has them, kinds in numbers.
func num(n uint32) api.Node                  { return api.Node{K: 0, N: n} }
func name(s string) api.Node                 { return api.Node{K: 1, S: s} }
func un(s string, l ...api.Node) api.Node    { return api.Node{K: 2, S: s, L: l} }
func bin(s string, l ...api.Node) api.Node   { return api.Node{K: 3, S: s, L: l} }
func shift(s string, l ...api.Node) api.Node { return api.Node{K: 4, S: s, L: l} }
func call(s string, l ...api.Node) api.Node  { return api.Node{K: 5, S: s, L: l} }
func secret(p ...string) api.Node            { return api.Node{K: 6, P: p} }
func public(p ...string) api.Node            { return api.Node{K: 7, P: p} }
func out(s string, l ...api.Node) api.Node   { return api.Node{K: 8, S: s, L: l} }
func shown(s string, l ...api.Node) api.Node { return api.Node{K: 9, S: s, L: l} }
func let(s string, l ...api.Node) api.Node   { return api.Node{K: 10, S: s, L: l} }
func program(l ...api.Node) api.Node         { return api.Node{K: 13, L: l} }

// loop goes from 0 to below that.
func loop(s string, to uint32, l ...api.Node) api.Node {
	return api.Node{K: 11, S: s, L: append([]api.Node{num(0), num(to)}, l...)}
}

func function(s string, a api.Node, p ...string) api.Node {
	return api.Node{K: 12, S: s, L: []api.Node{a}, P: p}
}

// here is the place of what is wrong first; no other node has it.
const here = -7

// bad is n, which is wrong.
func bad(n api.Node) api.Node {
	n.At = here
	return n
}

// each goes through n and all that is below it.
func each(n *api.Node, visit func(*api.Node)) {
	visit(n)
	for k := range n.L {
		each(&n.L[k], visit)
	}
}

// placed is n in memory of its own, each node that isn't bad at a place of its own.
func placed(n api.Node) api.Node {
	n = copied(n)
	place := 0
	each(&n, func(part *api.Node) {
		place += 3
		if part.At != here {
			part.At = place
		}
	})
	return n
}

// handRight looks that these statements are a program with these outputs.
func handRight(t *testing.T, outs []api.Label, l ...api.Node) {
	t.Helper()
	checks(t, placed(program(l...)), outs, 0, api.OK)
}

// handWrong looks that they are wrong first at what is bad, by that error, whatever comes behind them.
func handWrong(t *testing.T, e api.Errno, l ...api.Node) {
	t.Helper()
	checks(t, placed(program(l...)), nil, here, e)
	checks(t, placed(program(append(slices.Clone(l), secret("yy"), shown("zz", shift("<<", name("yy"), name("yy"))), loop("zz", 9999))...)), nil, here, e)
}

// P13.3: an amount, or a loop's expression, with nodes that no text has: at the first that is no part of a constant.
func TestAmountsByHand(t *testing.T) {
	a, p, one := name("a"), name("p"), num(1)
	for _, of := range []struct {
		n api.Node
		e api.Errno
	}{
		{bad(un("+", a)), 120}, {bad(un("", one)), 120}, {bad(un("~")), 120}, {bad(un("~", a, a)), 120}, {un("~", bad(a)), 130}, {bad(bin("*", a, a)), 120}, {bad(bin("<<", one, one)), 120}, {bad(bin("+", a)), 120}, {bad(bin("+")), 120}, {bad(bin("+", a, one, one)), 120}, {bin("+", one, bad(bin("", a, one))), 120},
		{bad(shift("+", one, a)), 120}, {bad(shift("<<", a)), 120}, {bad(shift("<<")), 120}, {bad(shift("<<", one, a, one)), 120}, {bad(shift(">>>", one, one)), 120}, {shift("<<", bad(a), bad(p)), 130}, {shift("<<", bad(p), a), 120}, {bin("-", one, un("-", bad(p))), 120}, {bin("-", un("-", bad(a)), p), 130},
		{bad(secret("a")), 120}, {bad(program()), 120}, {bad(program(a)), 120}, {bad(out("a", a)), 120}, {bad(api.Node{K: 99, S: "a"}), 120}, {bad(api.Node{K: -1, S: "a", L: []api.Node{a}}), 120}, {bin("+", one, bad(let("a", one))), 120}, {bad(call("sel", a, a, a)), 120}, {bin("+", bad(call("f", a)), a), 120},
	} {
		ahead := []api.Node{secret("a"), public("p"), function("f", name("x"), "x")}
		then := func(e api.Errno, n api.Node) {
			t.Helper()
			handWrong(t, e, append(slices.Clone(ahead), n)...)
		}
		for _, s := range []string{"<<", ">>", "<<<"} {
			then(of.e, let("x", shift(s, one, of.n)))
			then(of.e, out("o", un("~", bin("+", one, call("f", shift(s, shift(s, a, a), of.n))))))
		}
		from := loop("i", 1, let("x", shift("<<", a, a)))
		from.L[0] = of.n
		then(of.e, from)
		from.L[0], from.L[1] = one, of.n
		then(of.e, from)
		from.L[0] = bad(p)
		then(120, from)
		ahead = append(ahead, function("g", shift("<<", one, of.n), "a", "p"))
		then(of.e, let("x", call("g", a, p)))
		ahead = append(ahead, let("y", one))
		checks(t, placed(program(append(ahead, out("o", bin("+", name("y"), a)))...)), labels("o*"), 0, api.OK)
	}
}

// P13.3: inputs, functions and outputs in loops, as no text has them: as they run.
func TestStatementsInLoops(t *testing.T) {
	a, i, x := name("a"), name("i"), name("x")
	f := function("f", x, "x")
	handRight(t, labels("o*"), let("t", num(1)), loop("i", 2, secret("a"), let("t", a), let("u", shift("<<", a, i))), out("o", name("t")))
	handRight(t, labels("o"), let("t", num(1)), loop("i", 0, secret("a"), let("t", a)), public("a"), let("t", bin("+", name("t"), a)), out("o", name("t")))
	handRight(t, labels("o*", "p!"), let("t", num(1)), loop("i", 2, loop("j", 2, secret("a"), let("t", a)), loop("j", 1, public("a"), let("u", a))), out("o", name("t")), public("a"), shown("p", a))
	handWrong(t, 130, loop("i", 2, public("b"), secret("a"), let("t", shift("<<", name("b"), bad(a)))))
	handWrong(t, 120, loop("i", 2, secret("b"), public("a"), let("t", shift("<<", name("b"), bad(a)))))
	handWrong(t, 120, loop("i", 2, secret("a")), loop("i", 3, public("a"), let("t", shift("<<", i, bad(a)))))
	// A function is there behind a loop, even if that has no round.
	for _, rounds := range []uint32{0, 1, 3} {
		handRight(t, labels("o*", "p"), secret("a"), loop("i", rounds, loop("j", rounds, f)), out("o", call("f", a)), loop("i", 3, let("y", call("f", i))), out("p", call("f", num(2))))
		handWrong(t, 130, secret("a"), loop("i", rounds, function("f", shift("<<", num(1), bad(x)), "x")), let("y", call("f", a)))
		handWrong(t, 120, secret("a"), loop("i", rounds, function("f", shift("<<", num(1), bad(name("i"))), "i")), let("y", call("f", num(3))))
	}
	// Outputs are told round by round.
	handRight(t, labels("p*", "q"), secret("a"), loop("i", 1, out("p", a)), loop("i", 0, out("o", a)), loop("i", 1, loop("j", 1, out("q", i))))
	handWrong(t, 130, secret("a"), let("t", num(1)), loop("i", 2, bad(shown("p", name("t"))), let("t", a)))
	handRight(t, labels("p!"), secret("a"), let("t", num(1)), loop("i", 1, shown("p", name("t")), let("t", a)))
}

// P13.3: calls in calls, in their parts: one may lie in 60 others.
func TestDeepCallsByHand(t *testing.T) {
	f, one := function("f", name("x"), "x"), num(1)
	for _, of := range []func(api.Node) api.Node{
		func(n api.Node) api.Node { return call("f", n) }, func(n api.Node) api.Node { return call("f", un("~", n)) }, func(n api.Node) api.Node { return call("sel", one, n, one) }, func(n api.Node) api.Node { return call("sel", shift("<<", n, one), call("f", one), call("f", one)) },
	} {
		n, m := call("f", name("a")), bad(call("f", name("a")))
		for range 60 {
			n, m = of(n), of(m)
		}
		handRight(t, labels("o*"), secret("a"), f, out("o", n))
		handWrong(t, api.ErrResource, secret("a"), f, out("o", of(m)))
		handWrong(t, api.ErrResource, secret("a"), f, function("g", m, "a"), out("o", call("g", name("a"))))
	}
	n := one
	for k := range 30000 {
		// Of the outermost 62, the last one.
		if n = call("f", n); k == 30000-62 {
			n = bad(n)
		}
	}
	handWrong(t, api.ErrResource, f, out("o", n))
}

// P13.3: as deep as may be, and as many as one likes.
func TestGreatTrees(t *testing.T) {
	const deep = 1 << 15
	n, m, l := name("a"), shift("<<", num(1), bad(name("a"))), num(1)
	for range deep {
		n, m, l = un("~", n), un("-", bin("+", num(1), m)), bin("^", l, num(1))
	}
	handRight(t, labels("o*", "p"), secret("a"), out("o", n), out("p", l), loop("i", 3, let("x", l)))
	handRight(t, labels("o*"), secret("a"), loop("i", 2, let("x", shift("<<", n, l))), out("o", name("a")))
	handWrong(t, 130, secret("a"), let("x", n), let("y", m))
	handWrong(t, 150, secret("a"), function("f", l, "x"), let("x", call("f", n)), let("x", bad(call("f", num(1)))))
	// Functions in one another, each deep.
	f := []api.Node{function("f0", name("x"), "x")}
	for k := range 60 {
		n := call(fmt.Sprint("f", k), name("x"))
		if k == 59 {
			n = bad(n)
		}
		for range deep {
			n = un("~", n)
		}
		f = append(f, function(fmt.Sprint("f", k+1), n, "x"))
	}
	if _, at, err := flow.Check(program(append(f, let("y", call("f60", num(1))))...)); at != here || err != api.ErrResource {
		t.Errorf("Check of functions in one another: %d, %v", at, err)
	}
	inner := let("x", name("a"))
	for k := range 1000 {
		inner = loop(fmt.Sprint("i", k), 1, loop("j", 0), let("x", num(1)), let(fmt.Sprint("t", k), num(1)), inner)
	}
	handRight(t, labels("o*"), secret("a"), let("x", num(1)), inner, out("o", name("x")))
	var p []string
	var lets []api.Node
	for k := range 100000 {
		p = append(p, fmt.Sprint("p", k))
		lets = append(lets, let(fmt.Sprint("v", k), name(p[k])))
	}
	handRight(t, labels("o*"), slices.Concat([]api.Node{secret(p...)}, lets, []api.Node{loop("i", 1900, let("x", name("v7"))), out("o", name("v99999"))})...)
	handRight(t, labels("o"), slices.Concat([]api.Node{public(p...)}, lets, []api.Node{loop("i", 1900, let("x", name("v7"))), out("o", name("v99999"))})...)
	handRight(t, labels("o!"), secret("a"), loop("i", 1000), loop("i", 1000), shown("o", num(1)))
	var loops []api.Node
	for range 100000 {
		loops = append(loops, loop("i", 0, let("x", num(1))))
	}
	handRight(t, labels("o*"), slices.Concat([]api.Node{secret(p...)}, loops, []api.Node{out("o", name("p9"))})...)
}

// P13.3: whatever parts are not there, or are there as none are read, the call ends, and what it tells is labels or one error.
func TestPartsThatLack(t *testing.T) {
	a := name("a")
	for k := -1; k <= 15; k++ {
		for _, l := range [][]api.Node{nil, {}, {{}}, {a}, {a, {}}, {{}, a}, {{}, {}, {}}, {a, a, let("a", num(1))}, {call("sel", a, a, a), let("a", a), {K: 11}}, {{}, num(2), let("x", a), out("x", a)}, {num(1), num(2), num(3), a}} {
			for _, p := range [][]string{nil, {}, {"a"}, {"n", ""}} {
				for _, s := range []string{"n", "+", "~", "<<", "sel"} {
					n := api.Node{K: k, S: s, At: 8, P: p, L: l}
					for _, n := range []api.Node{n, program(n), program(loop("i", 2, n)), program(secret("a"), let("x", n), out("o", name("x"))), program(secret("a"), n, n), program(secret("a"), let("x", shift("<<", n, n))), program(secret("a"), api.Node{K: 11, L: []api.Node{n}}), program(secret("a"), api.Node{K: 11, L: []api.Node{num(0), n, n}}), program(function("f", n, "a"), let("x", call("f", num(1))))} {
						ahead := copied(n)
						got, at, err := flow.Check(n)
						if !slices.Contains([]api.Errno{0, 120, 130, 150}, err) || err == api.OK && at != 0 || err != api.OK && len(got) > 0 {
							t.Errorf("Check of %s: %s, %d, %v", tell(n), tell(got), at, err)
						}
						if number, is := flow.Const(n, loops()); !is && number != 0 {
							t.Errorf("Const of %s: %d, false", tell(n), number)
						}
						if !reflect.DeepEqual(n, ahead) {
							t.Errorf("Check made %s of %s", tell(n), tell(ahead))
						}
					}
				}
			}
		}
	}
	checks(t, api.Node{}, nil, 0, api.OK)
	checks(t, secret("a", "a"), nil, 0, api.OK)
	handRight(t, nil, let("x"), loop("i", 2, let("x")), api.Node{K: 12, S: "f"}, let("y", call("f")), api.Node{K: 11, S: "j"})
}

// P13.3: the place is the node's, whatever it is.
func TestPlaces(t *testing.T) {
	for _, place := range []int{0, 1, -1, 7, 20000, 1 << 62, -1 << 63} {
		at := func(n api.Node) api.Node {
			n.At = place
			return n
		}
		a := secret("a")
		checks(t, program(a, let("x", shift("<<", num(1), at(name("a"))))), nil, place, api.ErrFlow)
		checks(t, program(a, let("x", shift("<<", num(1), at(call("sel", name("a"), num(1), num(1)))))), nil, place, api.ErrType)
		checks(t, program(a, at(shown("o", name("a")))), nil, place, api.ErrFlow)
		checks(t, program(at(loop("i", 2001))), nil, place, api.ErrResource)
		checks(t, program(out("o", at(name("a")))), nil, place, api.ErrType)
	}
}

// What is handed in is neither changed nor kept, its spare room included; answers share nothing.
func TestMemory(t *testing.T) {
	l := append(make([]api.Node, 0, 9), secret("a"), public("p"), function("f", bin("+", name("x"), name("y")), "x", "y"), loop("i", 2, let("t", shift("<<", name("a"), name("i")))), out("o", call("f", name("a"), num(1))), shown("s", name("p")))
	n := program()
	n.L = l
	ahead := copied(program(l[:cap(l)]...))
	got, _, err := flow.Check(n)
	again, _, _ := flow.Check(n)
	if want := labels("o*", "s!"); !slices.Equal(got, want) || err != api.OK {
		t.Fatalf("Check of %s: %s, %v", tell(n), tell(got), err)
	}
	clear(got[:cap(got)])
	if !reflect.DeepEqual(program(l[:cap(l)]...), ahead) || !slices.Equal(again, labels("o*", "s!")) {
		t.Errorf("behind changes of what was answered: %s, %s", tell(n), tell(again))
	}
	l[4].S, l[5].S = "x", "y"
	if !slices.Equal(again, labels("o*", "s!")) {
		t.Errorf("behind changes of the tree: %s", tell(again))
	}
	const s = "secret a; public p; out o = a; out q = p; show r = p;"
	tree1, all, _, _ := flow.Program(s)
	tree2, more, _, _ := flow.Program(s)
	for _, l := range [][]string{all.Secrets, all.Publics, tree1.L[0].P} {
		for k := range cap(l) {
			l[:cap(l)][k] = "changed"
		}
	}
	clear(all.Outs[:cap(all.Outs)])
	clear(tree1.L[:cap(tree1.L)])
	if want := (api.Names{Secrets: []string{"a"}, Publics: []string{"p"}, Outs: labels("o*", "q", "r!")}); !sameNames(more, want) || !reflect.DeepEqual(tree2, tree(t, s)) {
		t.Errorf("behind changes of what was answered: %s, %s", tell(more), tell(tree2))
	}
	loops := append(make([]api.Out, 0, 4), api.Out{Name: "i", At: 3}, api.Out{Name: "i", At: 4}, api.Out{Name: "j", At: 5})
	constant(t, bin("+", name("i"), name("i")), loops[:1], 6, true)
	if !slices.Equal(loops[:4], []api.Out{{Name: "i", At: 3}, {Name: "i", At: 4}, {Name: "j", At: 5}, {}}) {
		t.Errorf("Const changed the list: %s", tell(loops[:4]))
	}
}
