package eval_test

import (
	"fmt"
	"math"
	"slices"
	"strings"
	"testing"

	"bauta/api"
	"bauta/eval"
	"bauta/flow"
	"bauta/parse"
)

// alone looks that Expr tells just this of s, and leaves both lists as they were.
func alone(t *testing.T, s string, names []string, l []uint32, want uint32, e api.Errno) {
	t.Helper()
	n, w := slices.Clone(names), slices.Clone(l)
	if got, err := eval.Expr(s, names, l); got != want || err != e {
		t.Errorf("Expr(%.300q, %s, %s): %d, %v, not %d, %v", s, tell(n), tell(w), got, err, want, e)
	}
	if !slices.Equal(names, n) || !slices.Equal(l, w) {
		t.Errorf("Expr(%.300q) changed %s, %s to %s, %s", s, tell(n), tell(w), tell(names), tell(l))
	}
}

// The names and words of the expressions below.
func names4() []string { return []string{"a", "b", "p", "q"} }
func words4() []uint32 { return []uint32{0xdeadbeef, 5, 0x12345678, 1<<32 - 1} }

// worth looks that an expression of the names above, with no function in it but sel, has that word, wherever it stands.
func worth(t *testing.T, s string, want uint32) {
	t.Helper()
	alone(t, s, names4(), words4(), want, api.OK)
	alone(t, "~("+s+")", names4(), words4(), ^want, api.OK)
	alone(t, "sel(q, "+s+", a)", names4(), words4(), want, api.OK)
	inPrograms(t, s, want)
}

// inPrograms looks that it has that word in programs, in which there are functions, too.
func inPrograms(t *testing.T, s string, want uint32) {
	t.Helper()
	const ahead = "secret a, b; public p, q; fn f(x) = x + 1; fn g(x, y) = x - y; fn h(y, x) = g(x, f(y)); fn k(a) = 7; "
	l := words4()
	for _, of := range []string{
		"out o = EXPR;", "t = EXPR; out o = t;", "t = a; t = EXPR; u = t; t = 0; out o = u;", "t = 0; for i in 5 .. 6 { t = EXPR; } out o = t;", "fn z(a, b, p, q) = EXPR; a1 = ~a; out o = z(a, b, p, q);", "fn z(q, p, b, a) = EXPR; fn y(q, b, a, p) = z(q, p, b, a); out o = y(q, b, a, p);", "out o = (EXPR) + 0;", "out o = f(EXPR) - 1;", "out o = sel(1, EXPR, EXPR);", "x = 0; for i in 0 .. 3 { for j in 2 .. 4 { x = x + (EXPR); } } out o = x - (EXPR) - (EXPR) - (EXPR) - (EXPR) - (EXPR);",
	} {
		comes(t, ahead+strings.ReplaceAll(of, "EXPR", s), l[:2], l[2:], want)
	}
}

// P14.2: the word of each kind of node.
func TestWords(t *testing.T) {
	for s, want := range map[string]uint32{
		"0": 0, "7": 7, "4294967295": math.MaxUint32, "0x80000000": 1 << 31, "a": 0xdeadbeef, "b": 5, "(p)": 0x12345678, "q": math.MaxUint32,
		"~0": math.MaxUint32, "~b": math.MaxUint32 - 5, "~q": 0, "~~a": 0xdeadbeef, "~a": 0x21524110, "-1": math.MaxUint32, "-0": 0, "-b": math.MaxUint32 - 4, "-q": 1, "--p": 0x12345678, "~-b": 4, "-~b": 6, "-0x80000000": 1 << 31,
		"q + 1": 0, "q + q": math.MaxUint32 - 1, "a + p": 0xf0e21567, "a + a": 0xbd5b7dde, "b + b + b": 15, "b - 6": math.MaxUint32, "0 - q": 1, "p - a": 0x33869789, "a - a": 0, "9 - b - 2": 2, "9 - (b - 2)": 6, "0x80000000 - q": 1<<31 + 1, "0x7fffffff + 1": 1 << 31, "0x80000000 + 0x80000000": 0,
		"12 & 10": 8, "12 | 10": 14, "12 ^ 10": 6, "a & p": 0x12241668, "a | p": 0xdebdfeff, "a ^ p": 0xcc99e897, "a & q": 0xdeadbeef, "a ^ q": 0x21524110, "a | q": math.MaxUint32, "a & 0": 0, "a ^ a": 0, "1 | 2 ^ 3 & 6": 1, "(1 | 2 ^ 3) & 6": 0, "6 ^ 3 | 8 & 12": 13,
		"sel(q, a, p)": 0xdeadbeef, "sel(0, a, p)": 0x12345678, "sel(0xffff0000, a, p)": 0xdead5678, "sel(0x0f0f0f0f, a, p)": 0x1e3d5e7f, "sel(a, q, 0)": 0xdeadbeef, "sel(a, 0, q)": 0x21524110, "sel(b, b, b)": 5, "sel(1, 2, 4)": 4, "sel(6, 3, 8)": 10, "sel(sel(q, 12, 1), sel(0, 1, 10), 3 << 1)": 10,
		"a + b << 3": 0xf56df7a0, "a + (b << 3)": 0xdeadbf17, "~a & p | b ^ 9": 0x00104010 | 12,
	} {
		worth(t, s, want)
	}
	for s, want := range map[string]uint32{"f(1)": 2, "f(q)": 0, "f(f(f(b)))": 8, "g(b, 7)": math.MaxUint32 - 1, "g(7, b)": 2, "h(b, a)": 0xdeadbee9, "h(1, h(2, 3))": math.MaxUint32 - 1, "k(a)": 7, "k(k(k(b)))": 7, "f(a) + k(a) - g(a, b)": 13, "sel(f(q), k(1), f(a))": 0xdeadbef0, "f(b) << 30": 1 << 31, "~f(~f(b))": 5, "g(f(b) >> 1, k(0) <<< 31)": 1 << 31} {
		inPrograms(t, s, want)
	}
}

// amounts are constants, with their numbers.
func amounts() map[string]uint32 {
	return map[string]uint32{
		"0": 0, "1": 1, "31": 31, "32": 32, "33": 33, "63": 63, "64": 64, "256": 256, "0x80000000": 1 << 31, "4294967294": math.MaxUint32 - 1, "4294967295": math.MaxUint32, "~0": math.MaxUint32, "-1": math.MaxUint32, "-31": math.MaxUint32 - 30, "-32": math.MaxUint32 - 31, "(1 + 2)": 3, "(2 - 1)": 1, "(1 - 2)": math.MaxUint32, "(12 & 10)": 8, "(12 | 10)": 14, "(12 ^ 10)": 6,
		"(1 << 3)": 8, "(1 << 32)": 0, "(64 >> 1)": 32, "(64 >> 33)": 0, "(1 <<< 36)": 16, "(0xffffffff >> 27)": 31, "(1 <<< 31 >> 26)": 32, "~(0 - 5)": 4, "-~(1 << (1 + 1))": 5, "((1 | 2) + (7 & ~3) ^ -(0 - 8))": 15, "(4294967295 + 2)": 1, "(0 - 4294967295)": 1,
	}
}

// P14.2: shifts to the left and to the right, and turns, by numbers that constants come to.
func TestShifts(t *testing.T) {
	for amount, by := range amounts() {
		for k, s := range names4() {
			a := words4()[k]
			left, right, turned := uint32(0), uint32(0), a
			if by < 32 {
				left, right = uint32(uint64(a)<<by), a>>by
			}
			for range by % 32 {
				turned = turned<<1 + turned>>31
			}
			worth(t, s+" << "+amount, left)
			worth(t, s+" >> "+amount, right)
			worth(t, s+" <<< "+amount, turned)
			worth(t, "-("+s+" <<< "+amount+" <<< 32) + b", 5-turned)
		}
	}
}

// P14.2: amounts that are made of loops' names.
func TestLoopsAmounts(t *testing.T) {
	for amount, by := range amounts() {
		for _, of := range []string{
			"for i in AMOUNT .. AMOUNT + 1 { l = a << i; r = a >> i; t = a <<< i; }", "for i in 2 .. 3 { for j in AMOUNT - 1 .. AMOUNT { l = a << j + i - 1; r = a >> ~(~j - 1); t = a <<< -(0 - j) + (i >> 1); } }", "for i in 0 .. 5 { for j in 0 .. i - 3 >> 31 ^ 1 { l = a << AMOUNT; r = a >> AMOUNT + j; t = a <<< ((AMOUNT | i & 3) & AMOUNT); } }", "for i in 0 .. 3 { l = a << AMOUNT + (2 - i); r = a >> (AMOUNT ^ i ^ 2); t = a <<< AMOUNT + (i + 30); }",
		} {
			s := "secret a; l = 7; r = 7; t = 7; " + strings.ReplaceAll(of, "AMOUNT", amount) + " out x = l; out y = r; out z = t;"
			if by == math.MaxUint32 && strings.Contains(s, "+ 1 {") || by == 0 && strings.Contains(s, "- 1 ..") {
				// Such a loop has no round.
				comes(t, s, words(0xdeadbeef), nil, 7, 7, 7)
				continue
			}
			left, right, turned := uint32(0), uint32(0), uint32(0xdeadbeef)
			if by < 32 {
				left, right = uint32(uint64(turned)<<by), turned>>by
			}
			comes(t, s, words(0xdeadbeef), nil, left, right, turned<<(by%32)|turned>>(32-by%32))
		}
	}
}

// edges are words at which signs go over.
func edges() []uint32 {
	return []uint32{0, 1, 2, 31, 32, 33, 255, 0x7fffffff, 0x80000000, 0x80000001, 0xfffffffe, 0xffffffff, 0xdeadbeef, 0x12345678}
}

// P14.2: each sign of words at the edges, against sums digit by digit.
func TestEdges(t *testing.T) {
	l := []string{"a", "b", "c"}
	for _, a := range edges() {
		alone(t, "~a", l, words(a), value(turned(written(a))), api.OK)
		alone(t, "-a", l, words(a), value(less(written(0), written(a))), api.OK)
		for _, b := range edges() {
			for _, s := range []string{"+", "-", "&", "|", "^"} {
				want := value(both(s, written(a), written(b)))
				alone(t, "a "+s+" b", l, words(a, b), want, api.OK)
				alone(t, fmt.Sprintf("0x%x %s %d", a, s, b), nil, nil, want, api.OK)
				comes(t, "secret a; public b; out o = a "+s+" b; out p = b "+s+" a;", words(a), words(b), want, value(both(s, written(b), written(a))))
			}
			for _, s := range []string{"<<", ">>", "<<<"} {
				want := value(moved(s, written(a), b))
				alone(t, fmt.Sprintf("a %s %d", s, b), l, words(a), want, api.OK)
				comes(t, fmt.Sprintf("secret a; out o = a %s %d; out p = ~(0x%x %s %d);", s, b, a, s, b), words(a), nil, want, ^want)
			}
			for _, c := range edges() {
				alone(t, "sel(a, b, c)", l, words(a, b, c), value(chosen(written(a), written(b), written(c))), api.OK)
			}
		}
	}
}

// P14.3: parse.Expr's error of the text, whatever names and words there are, and whatever else would be wrong.
func TestNoExpr(t *testing.T) {
	for s, e := range map[string]api.Errno{
		"": 100, " ": 100, "// nothing": 100, "a +": 100, "+ a": 100, "a b": 100, "a;": 100, "(a": 100, "a)": 100, "()": 100, "sel()": 100, "sel(1, 2, )": 100, "out o = a;": 100, "a = 1": 100, "1 <": 100, "for": 100, "0x": 100, "a ? b": 100, "a !": 100, "\x00": 100, "1 2": 100,
		"4294967296": 150, "0x100000000": 150, "a + 99999999999": 150, strings.Repeat("(", 61) + "a": 150, strings.Repeat("~", 61) + "a": 150, strings.Repeat(" ", 20001): 150, strings.Repeat("a+", 2000) + "a": 150,
		"c +": 100, "f(1) 2": 100, "(1 << a": 100, "c + 4294967296": 150, "f(1, 4294967296)": 150, "1 << a + 4294967296": 150, "sel(1, 2) +": 100,
	} {
		if _, _, err := parse.Expr(s); err != e {
			t.Errorf("parse.Expr(%.300q): %v", s, err)
		}
		alone(t, s, nil, nil, 0, e)
		alone(t, s, names4(), words4(), 0, e)
	}
	alone(t, strings.Repeat("(", 60)+"a"+strings.Repeat(")", 60), names4(), words4(), 0xdeadbeef, api.OK)
	alone(t, strings.Repeat("~", 60)+"a", names4(), words4(), 0xdeadbeef, api.OK)
	alone(t, strings.Repeat("b+", 1000)+"b", names4(), words4(), 5005, api.OK)
}

// P14.3: a name is the word at its place in words, 0 beyond; ErrArg, if it is none.
func TestExprNames(t *testing.T) {
	for _, of := range []struct {
		s     string
		names []string
		l     []uint32
		want  uint32
		e     api.Errno
	}{
		{"a", nil, nil, 0, 1}, {"a", []string{}, words(7), 0, 1}, {"a", []string{"b"}, words(7), 0, 1}, {"a", []string{"A", "aa", "a ", "", "_a"}, words(1, 2, 3, 4, 5), 0, 1}, {"aa", []string{"a"}, words(1), 0, 1}, {"a", []string{"a"}, nil, 0, 0}, {"~a", []string{"a"}, words(), math.MaxUint32, 0}, {"a", []string{"a"}, words(7), 7, 0}, {"a", []string{"a"}, words(7, 8, 9), 7, 0},
		{"b", []string{"a", "b", "c"}, words(7, 8, 9), 8, 0}, {"c", []string{"a", "b", "c"}, words(7, 8, 9), 9, 0}, {"c", []string{"a", "b", "c"}, words(7, 8), 0, 0}, {"a - b - c", []string{"a", "b", "c"}, words(7), 7, 0}, {"d", []string{"a", "b", "c"}, words(7, 8, 9, 10), 0, 1},
		{"a", []string{"a", "a"}, words(7, 8), 7, 0}, {"a", []string{"a", "b", "a"}, words(7, 8, 9), 7, 0}, {"a", []string{"b", "a", "a", "a"}, words(7, 8, 9, 10), 8, 0}, {"a + b", []string{"b", "a", "b", "a"}, words(7, 8, 90, 100), 15, 0}, {"a", []string{"b", "a", "a"}, words(7), 0, 0}, {"a", []string{"", "", "a"}, words(7, 8, 9), 9, 0},
		{"sel", []string{"sel"}, words(7), 7, 0}, {"sel", nil, nil, 0, 1}, {"sel(sel, sel, 1)", []string{"sel"}, words(6), 7, 0}, {"f", []string{"f"}, words(7), 7, 0}, {"f(f)", []string{"f"}, words(7), 0, 1},
		{"a + d", names4(), words4(), 0, 1}, {"d + a", names4(), words4(), 0, 1}, {"a & (0 & d)", names4(), words4(), 0, 1}, {"sel(0, d, a)", names4(), words4(), 0, 1}, {"sel(d, a, a)", names4(), words4(), 0, 1}, {"sel(0, a, ~d)", names4(), words4(), 0, 1}, {"d << 1", names4(), words4(), 0, 1}, {"d <<< 32", names4(), words4(), 0, 1}, {"-d >> 33", names4(), words4(), 0, 1}, {"1 - (2 - (3 - (4 - d)))", names4(), words4(), 0, 1}, {"d ^ d", names4(), words4(), 0, 1},
		{"7", nil, nil, 7, 0}, {"sel(1, 2, 3) << 1", nil, nil, 4, 0},
	} {
		alone(t, of.s, of.names, of.l, of.want, of.e)
	}
	var all []string
	var l []uint32
	for k := range uint32(1000) {
		all = append(all, fmt.Sprint("v", k%700))
		l = append(l, k*k)
	}
	for k := range uint32(700) {
		alone(t, fmt.Sprint("v", k, " + 1"), all, l, k*k+1, api.OK)
		alone(t, fmt.Sprint("v", k, " + 1"), all, l[:500], l[k]*uint32(max(0, min(1, 500-int(k))))+1, api.OK)
	}
	alone(t, "v700", all, l, 0, api.ErrArg)
}

// P14.3: ErrArg of calls that are not sel of three.
func TestExprCalls(t *testing.T) {
	for _, s := range []string{"sel(1)", "sel(1, 2)", "sel(1, 2, 3, 4)", "sel(a, b, p, q)", "f(1)", "f(1, 2, 3)", "sel1(1, 2, 3)", "Sel(1, 2, 3)", "se(1, 2, 3)", "a(1, 2, 3)", "a(a, a, a)", "out1(1)", "sel(1, 2, f(3))", "sel(sel(1, 2), 2, 3)", "sel(1, sel(1, 2, 3, 4), 3)"} {
		for _, of := range []string{"EXPR", "~EXPR", "-(EXPR)", "a + EXPR", "EXPR - a", "0 & EXPR", "EXPR << 40", "sel(EXPR, 1, 2)", "sel(0, EXPR, 2)", "sel(q, 1, EXPR)", "1 | (2 ^ (3 & ~(EXPR)))", "(EXPR) <<< 1 >> 2"} {
			alone(t, strings.ReplaceAll(of, "EXPR", s), names4(), words4(), 0, api.ErrArg)
		}
	}
	for _, s := range []string{"sel(1, 2, 3)", "sel(sel(1, 2, 3), sel(a, b, p), sel(q, q, q))"} {
		if _, err := eval.Expr(s, names4(), words4()); err != api.OK {
			t.Errorf("Expr(%q): %v", s, err)
		}
	}
}

// P14.3: ErrArg of amounts that are no constants of numbers, be their names in the list or not.
func TestExprAmounts(t *testing.T) {
	for _, amount := range []string{"a", "c", "(a)", "~a", "-b", "(1 + a)", "(a - a)", "(0 & q)", "(1 << a)", "(a << 1)", "(1 << (2 + (3 ^ b)))", "(b <<< 32)", "(1 + 2 << -(3 | ~a))", "sel(1, 2, 3)", "sel(1, 2)", "f(1)", "(1 + sel(1, 2, 3))", "~(1 ^ f(a))", "(1 << sel(0, 0, 0))", "(sel(1, 1, 1) >> 1)", "-(-(-(1 - a)))", "(1 + 2 + 3 + a)"} {
		for _, shift := range []string{"<<", ">>", "<<<"} {
			for _, of := range []string{"EXPR", "~(EXPR)", "b - (EXPR)", "(EXPR) & 0", "sel(1, EXPR, 3)", "sel(0, 1, 2 + (EXPR))", "(EXPR) << 1", "1 | (2 ^ (3 & ~(EXPR)))", "1 << (EXPR)"} {
				for _, shifted := range []string{"a", "1", "0", "(a << 3)"} {
					alone(t, strings.ReplaceAll(of, "EXPR", shifted+" "+shift+" "+amount), names4(), words4(), 0, api.ErrArg)
				}
			}
		}
	}
	for amount, by := range amounts() {
		alone(t, "1 << "+amount, []string{"a"}, nil, value(moved("<<", written(1), by)), api.OK)
	}
}

// P14.3: two and more of these in one expression.
func TestExprBoth(t *testing.T) {
	l := []string{"c", "f(1)", "(1 << a)", "sel(1, 2)", "(1 >> f(1))", "(c << a)", "(f(c) <<< sel(c, c))", "sel(c, 1 << b, f(f(1)))"}
	for _, x := range l {
		for _, y := range l {
			for _, s := range []string{"X + Y", "sel(X, 1, Y)", "~X & (a | Y)", "X << Y", "(X << 2) ^ Y"} {
				s = strings.NewReplacer("X", x, "Y", y).Replace(s)
				alone(t, s, names4(), words4(), 0, api.ErrArg)
				alone(t, s+" +", names4(), words4(), 0, api.ErrSyntax)
				alone(t, s+" + 4294967296", names4(), words4(), 0, api.ErrResource)
			}
		}
	}
}

// What is handed in is neither changed nor kept, its spare room included; answers share nothing.
func TestMemory(t *testing.T) {
	l := append(make([]api.Node, 0, 9), secret("a", "b"), public("p"), function("f", bin("+", name("x"), name("y")), "x", "y"), loop("i", 2, let("t", shift("<<", name("a"), name("i")))), out("o", call("f", name("a"), num(1))), shown("s", name("p")), out("r", name("b")))
	n := program()
	n.L = l
	ahead := copied(program(l[:cap(l)]...))
	secrets, publics := append(make([]uint32, 0, 9), 5, 6, 7), append(make([]uint32, 0, 9), 8, 9)
	got, _, err := eval.Run(n, secrets[:2], publics[:1])
	again, _, _ := eval.Run(n, secrets[:2], publics[:1])
	if want := words(6, 8, 6); !slices.Equal(got, want) || err != api.OK {
		t.Fatalf("Run of %s: %v, %v", tell(n), got, err)
	}
	clear(got[:cap(got)])
	if _, at, err := flow.Check(program(l[:cap(l)]...)); at != 0 || err != api.OK {
		t.Errorf("behind changes of what was answered: %d, %v", at, err)
	}
	if !slices.EqualFunc(l[:cap(l)], ahead.L, sameNode) || !slices.Equal(again, words(6, 8, 6)) {
		t.Errorf("behind changes of what was answered: %s, %s", tell(n), tell(again))
	}
	if !slices.Equal(secrets[:9], words(5, 6, 7, 0, 0, 0, 0, 0, 0)) || !slices.Equal(publics[:9], words(8, 9, 0, 0, 0, 0, 0, 0, 0)) {
		t.Errorf("Run changed the words: %v, %v", secrets[:9], publics[:9])
	}
	clear(secrets)
	clear(publics)
	if !slices.Equal(again, words(6, 8, 6)) {
		t.Errorf("behind changes of the words: %v", again)
	}
	// The rest of a list that is in the same memory is no part of it.
	s := words(1, 2, 3)
	comes(t, "secret a, b, c; public p, q; out o = b; out r = c; out u = q;", s[:2], s[:1], 2, 0, 0)
	alone(t, "a - b", []string{"a", "b", "c"}[:2], s[:1], 1, api.OK)
	alone(t, "c", []string{"a", "b", "c"}[:2], s, 0, api.ErrArg)
	one, _, _ := eval.Text("secret a; out o = a; out p = a;", s, nil)
	two, _, _ := eval.Text("secret a; out o = a; out p = a;", s, nil)
	clear(one[:cap(one)])
	if !slices.Equal(two, words(1, 1)) || !slices.Equal(s, words(1, 2, 3)) {
		t.Errorf("behind changes of what was answered: %v, %v", two, s)
	}
}
