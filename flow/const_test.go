package flow_test

import (
	"math"
	"reflect"
	"slices"
	"testing"

	"bauta/api"
	"bauta/flow"
	"bauta/parse"
	"bauta/word"
)

// constant looks that Const tells just this of n, and leaves it and the loops as they were.
func constant(t *testing.T, n api.Node, loops []api.Out, want uint32, is bool) {
	t.Helper()
	ahead, all := copied(n), slices.Clone(loops)
	if got, ok := flow.Const(n, loops); got != want || ok != is {
		t.Errorf("Const of %s and %s: %d, %v, not %d, %v", tell(n), tell(loops), got, ok, want, is)
	}
	if !reflect.DeepEqual(n, ahead) || !slices.Equal(loops, all) {
		t.Errorf("Const made %s and %s of %s and %s", tell(n), tell(loops), tell(ahead), tell(all))
	}
}

// expr is what parse reads of s, which is an expression.
func expr(t *testing.T, s string) api.Node {
	t.Helper()
	n, at, err := parse.Expr(s)
	if err != api.OK {
		t.Fatalf("parse.Expr(%q): %d, %v", s, at, err)
	}
	return n
}

// The loops of the texts below.
func loops() []api.Out { return []api.Out{{Name: "i", At: 5}, {Name: "j", At: 3}, {Name: "k", At: 0}} }

// P13.1: expressions of each kind, with each sign and each shift.
func TestConst(t *testing.T) {
	for s, want := range map[string]uint32{
		"0": 0, "7": 7, "4294967295": math.MaxUint32, "0x80000000": 1 << 31, "i": 5, "j": 3, "k": 0, "(i)": 5, "((7))": 7,
		"~0": math.MaxUint32, "~5": math.MaxUint32 - 5, "~~9": 9, "-1": math.MaxUint32, "-0": 0, "-i": math.MaxUint32 - 4, "--j": 3, "~-1": 0, "-~0": 1, "-0x80000000": 1 << 31,
		"1 + 2": 3, "4294967295 + 1": 0, "4294967295 + 4294967295": math.MaxUint32 - 1, "i + j + k": 8, "1 - 2": math.MaxUint32, "0 - 4294967295": 1, "i - j": 2, "j - i": math.MaxUint32 - 1, "9 - 3 - 2": 4, "9 - (3 - 2)": 8,
		"12 & 10": 8, "12 | 10": 14, "12 ^ 10": 6, "i & j": 1, "i | j": 7, "i ^ j": 6, "~i & 0xff": 250, "1 | 2 ^ 3 & 6": 1, "(1 | 2 ^ 3) & 6": 0, "6 ^ 3 | 8 & 12": 13,
		"1 << 0": 1, "1 << 1": 2, "1 << 31": 1 << 31, "1 << 32": 0, "1 << 33": 0, "1 << 63": 0, "1 << 64": 0, "1 << 256": 0, "1 << 0x80000000": 0, "1 << 4294967295": 0, "0xffffffff << 4": 0xfffffff0, "i << j": 40, "3 << 31": 1 << 31, "1 << 2 << 3": 32, "1 << (2 << 3)": 1 << 16, "1 << 2 + 1": 8, "1 << -1": 0,
		"8 >> 0": 8, "8 >> 1": 4, "0x80000000 >> 31": 1, "0x80000000 >> 32": 0, "0xffffffff >> 33": 0, "0xffffffff >> 4294967295": 0, "0xffffffff >> 4": 0x0fffffff, "-1 >> 31": 1, "40 >> j": 5, "9 >> 1 >> 1": 2, "9 >> 64": 0, "1 >> ~0": 0,
		"1 <<< 0": 1, "1 <<< 31": 1 << 31, "1 <<< 32": 1, "1 <<< 33": 2, "0x80000001 <<< 1": 3, "0x12345678 <<< 8": 0x34567812, "1 <<< 4294967295": 1 << 31, "1 <<< -1": 1 << 31, "3 <<< 31": 1<<31 + 1, "i <<< 32": 5, "i <<< j": 40, "0x12345678 <<< 64 + 4": 0x23456781,
		"1 << (i - 3) | ~(k ^ 0xfffffff0) & -j <<< 4": 4 | 0xf&math.MaxUint32, "(i + j << 2) - (1 << j) ^ 9 >> 1": 28,
	} {
		constant(t, expr(t, s), loops(), want, true)
	}
	for _, s := range []string{
		"l", "ii", "I", "i_", "~l", "1 + l", "l + 1", "i + (j - (k & l))", "l << 1", "1 << l", "1 >> (1 <<< l)", "sel(1, 2, 3)", "sel(i, j, k)", "f(1)", "i(1)", "1 + f(i)", "f(i) + 1", "~-sel(1, 1, 1)", "1 << f(1)", "f(1) << 1", "0 & l", "0 << l", "l ^ l", "sel",
	} {
		constant(t, expr(t, s), loops(), 0, false)
	}
}

// P13.1: each sign of words at the edges, and any words.
func TestConstSigns(t *testing.T) {
	words := []uint32{0, 1, 2, 31, 32, 33, 63, 64, 255, 256, 0x7fffffff, 0x80000000, 0x80000001, 0xfffffffe, 0xffffffff, 0xdeadbeef, 0x12345678}
	for _, a := range words {
		constant(t, num(a), nil, a, true)
		constant(t, un("~", num(a)), nil, math.MaxUint32-a, true)
		constant(t, un("-", num(a)), nil, uint32(1<<32-uint64(a)), true)
		for _, b := range words {
			left, _ := word.Shift(api.Lsl, a, b, false)
			right, _ := word.Shift(api.Lsr, a, b, false)
			l := []api.Out{{Name: "a", At: int(a)}, {Name: "b", At: int(b)}}
			for _, of := range []struct {
				n    func(string, ...api.Node) api.Node
				sign string
				want uint32
			}{{bin, "+", a + b}, {bin, "-", a - b}, {bin, "&", a & b}, {bin, "|", a | b}, {bin, "^", a ^ b}, {shift, "<<", left}, {shift, ">>", right}, {shift, "<<<", word.Rot(a, b)}} {
				constant(t, of.n(of.sign, num(a), num(b)), nil, of.want, true)
				constant(t, of.n(of.sign, name("a"), name("b")), l, of.want, true)
				constant(t, un("~", of.n(of.sign, num(a), name("b"))), l, ^of.want, true)
			}
		}
	}
}

// P13.1: what a name is: the last one of that name in the list, modulo 2^32.
func TestConstNames(t *testing.T) {
	i := name("i")
	for at, want := range map[int]uint32{
		0: 0, 1: 1, 1<<32 - 1: math.MaxUint32, 1 << 32: 0, 1<<32 + 7: 7, 5<<32 + 9: 9, -1: math.MaxUint32, -2: math.MaxUint32 - 1, -1 << 32: 0, -1<<32 - 3: math.MaxUint32 - 2, math.MaxInt64: math.MaxUint32, math.MinInt64: 0, math.MinInt64 + 4: 4,
	} {
		constant(t, i, []api.Out{{Name: "i", At: at}}, want, true)
		constant(t, bin("+", i, num(1)), []api.Out{{Name: "i", At: at}}, want+1, true)
		constant(t, i, []api.Out{{Name: "i", At: 3}, {Name: "j", At: 8}, {Name: "i", At: at}, {Name: "k", At: 9}}, want, true)
		constant(t, i, []api.Out{{Name: "i", At: at}, {Name: "i", At: 3}}, 3, true)
		constant(t, i, []api.Out{{Name: "i", At: at}, {Name: "i", At: at + 1}, {Name: "i", At: -4}}, math.MaxUint32-3, true)
		constant(t, name("j"), []api.Out{{Name: "i", At: at}}, 0, false)
	}
	constant(t, i, nil, 0, false)
	constant(t, i, []api.Out{}, 0, false)
	constant(t, name(""), nil, 0, false)
	constant(t, name(""), []api.Out{{At: 6}}, 6, true)
	constant(t, i, []api.Out{{At: 6}, {Name: "I", At: 2}, {Name: "ii", At: 2}}, 0, false)
	constant(t, bin("+", i, name("j")), []api.Out{{Name: "i", At: 3}}, 0, false)
	constant(t, bin("-", name("j"), i), []api.Out{{Name: "j", At: 3}, {Name: "i", At: 5}, {Name: "j", At: 9}}, 4, true)
	// The rest of a list that is in the same memory is no part of it.
	l := []api.Out{{Name: "i", At: 3}, {Name: "i", At: 5}, {Name: "j", At: 7}}
	constant(t, i, l[:1], 3, true)
	constant(t, name("j"), l[:2], 0, false)
}

// around is n at the top and deep down, in what is a constant but for it.
func around(n api.Node) []api.Node {
	one := num(1)
	return []api.Node{n, un("~", n), un("-", n), bin("+", n, one), bin("-", one, n), bin("&", n, num(0)), shift("<<", n, one), shift(">>", one, n), shift("<<<", num(0), n), bin("^", un("-", bin("|", one, shift("<<", one, un("~", n)))), one), shift("<<", num(0), shift(">>", n, num(40)))}
}

// P13.1: nodes of other kinds, with other numbers of parts, or other texts, are none, wherever they are.
func TestNoConst(t *testing.T) {
	one, i := num(1), name("i")
	parts := [][]api.Node{nil, {one}, {i}, {one, one}, {i, one}, {one, i, one}, {one, one, one, one}}
	signs := []string{"", "~", "-", "+", "&", "|", "^", "<<", ">>", "<<<", "*", "~~", "--", "<", ">", ">>>", "<<<<", "<< ", " +", "sel", "i", "1", "\x00"}
	forms := map[int]struct {
		parts int
		signs []string
	}{2: {1, []string{"~", "-"}}, 3: {2, []string{"+", "-", "&", "|", "^"}}, 4: {2, []string{"<<", ">>", "<<<"}}}
	kinds := []int{-1, 2, 3, 4, 5, 6, 7, 8, 9, 10, 11, 12, 13, 14, 15, 99, 1 << 40, math.MinInt64}
	for _, k := range kinds {
		for _, s := range signs {
			for _, l := range parts {
				n := api.Node{K: k, S: s, N: 6, L: l, P: []string{"i"}}
				form, some := forms[k]
				if some && len(l) == form.parts && slices.Contains(form.signs, s) {
					if _, is := flow.Const(n, loops()); !is {
						t.Errorf("Const of %s: none", tell(n))
					}
					continue
				}
				for _, n := range around(n) {
					constant(t, n, loops(), 0, false)
				}
			}
		}
	}
	for _, n := range around(name("l")) {
		constant(t, n, loops(), 0, false)
	}
	constant(t, api.Node{}, nil, 0, true)
}

// P13.1: as deep as may be, and as many as one likes.
func TestGreatConsts(t *testing.T) {
	const deep = 1 << 15
	n, m, l := num(3), name("i"), name("i")
	for range deep {
		n, m, l = un("~", n), bin("+", m, num(2)), shift("<<<", num(1), l)
	}
	constant(t, n, nil, 3, true)
	constant(t, un("-", n), nil, math.MaxUint32-2, true)
	constant(t, m, loops(), 5+2*deep, true)
	constant(t, m, nil, 0, false)
	if _, is := flow.Const(l, loops()); !is {
		t.Error("shifts in shifts are none")
	}
	constant(t, bin("+", n, shift("<<", l, call("f", num(1)))), loops(), 0, false)
	var many []api.Out
	for k := range 100000 {
		many = append(many, api.Out{Name: "i", At: k})
	}
	constant(t, name("i"), many, 99999, true)
	constant(t, name("j"), many, 0, false)
}
