package flow_test

import (
	"fmt"
	"reflect"
	"slices"
	"strings"
	"testing"

	"bauta/api"
	"bauta/flow"
	"bauta/names"
	"bauta/parse"
)

// tree is what parse reads of s, which is a program.
func tree(t *testing.T, s string) api.Node {
	t.Helper()
	n, at, err := parse.Parse(s)
	if err != api.OK {
		t.Fatalf("Parse(%.300q): %d, %v", s, at, err)
	}
	return n
}

// copied is n in memory of its own.
func copied(n api.Node) api.Node {
	n.P = slices.Clone(n.P)
	n.L = slices.Clone(n.L)
	for k := range n.L {
		n.L[k] = copied(n.L[k])
	}
	return n
}

// tell is what a test was about as a text, as far as it is of use.
func tell(x any) string {
	return fmt.Sprintf("%.300s", fmt.Sprintf("%+v", x))
}

// labels are outputs; those with a * are secret, those with a ! are shown.
func labels(l ...string) []api.Label {
	all := []api.Label{}
	for _, s := range l {
		all = append(all, api.Label{Name: strings.Trim(s, "*!"), Secret: strings.HasSuffix(s, "*"), Shown: strings.HasSuffix(s, "!")})
	}
	return all
}

// sameNames tells whether both are the same, nil and empty lists alike.
func sameNames(a, b api.Names) bool {
	return slices.Equal(a.Secrets, b.Secrets) && slices.Equal(a.Publics, b.Publics) && slices.Equal(a.Outs, b.Outs)
}

// checks looks that Check tells just this of n, and leaves it as it was.
func checks(t *testing.T, n api.Node, want []api.Label, place int, e api.Errno) {
	t.Helper()
	ahead := copied(n)
	got, at, err := flow.Check(n)
	if !slices.Equal(got, want) || at != place || err != e {
		t.Errorf("Check of %s: %s, %d, %v, not %s, %d, %v", tell(n), tell(got), at, err, tell(want), place, e)
	}
	if !reflect.DeepEqual(n, ahead) {
		t.Errorf("Check made %s of %s", tell(n), tell(ahead))
	}
}

// right looks that s is a program with these outputs.
func right(t *testing.T, s string, outs ...string) {
	t.Helper()
	n, want := tree(t, s), labels(outs...)
	checks(t, n, want, 0, api.OK)
	all, _, _ := names.Check(n)
	all.Outs = want
	again, got, at, err := flow.Program(s)
	if !reflect.DeepEqual(again, n) || !sameNames(got, all) || at != 0 || err != api.OK {
		t.Errorf("Program(%.300q): %s, %s, %d, %v, not %s, %s", s, tell(again), tell(got), at, err, tell(n), tell(all))
	}
}

// refused looks that Program tells just that error of s, there.
func refused(t *testing.T, s string, place int, e api.Errno) {
	t.Helper()
	n, got, at, err := flow.Program(s)
	if !reflect.DeepEqual(n, api.Node{}) || !sameNames(got, api.Names{}) || at != place || err != e {
		t.Errorf("Program(%.300q): %s, %s, %d, %v, not %d, %v", s, tell(n), tell(got), at, err, place, e)
	}
}

// mark stands in texts ahead of what is wrong first.
const mark = "@"

// wrong looks that s, without its mark, is wrong first where that stands, by that error.
func wrong(t *testing.T, e api.Errno, s string) {
	t.Helper()
	ahead, behind, is := strings.Cut(s, mark)
	if !is {
		t.Fatalf("no mark in %q", s)
	}
	checks(t, tree(t, ahead+behind), nil, len(ahead), e)
	refused(t, ahead+behind, len(ahead), e)
}

// The document's examples.
func TestExamples(t *testing.T) {
	wrong(t, api.ErrFlow, "secret a; out o = 1 << @a;")
	wrong(t, api.ErrType, "public p; out o = 1 << @p;")
	right(t, "secret a; out o = a + 1;", "o*")
	right(t, "secret a, b; out o = a & b;", "o*")
	wrong(t, api.ErrType, "x = @a;")
	wrong(t, api.ErrType, "secret a; for i in 0 .. 2 { t = a; } out o = @t;")
}

// P13.3: the labels, in order.
func TestLabels(t *testing.T) {
	right(t, "")
	right(t, "// nothing\n")
	right(t, "secret a; public p; x = a; fn f(x) = x; for i in 0 .. 3 { x = i; }")
	right(t, "out o = 1;", "o")
	right(t, "show o = 1;", "o!")
	right(t, "public p; show p = p; out o = p;", "p!", "o")
	right(t, "secret a; public p; out z = a; out y = p; show x = p; out w = a; show v = 1; out u = 1;", "z*", "y", "x!", "w*", "v!", "u")
	right(t, "secret a; x = 1; out a = x; out x = a; x = a; out y = x; x = 2; show z = x;", "a", "x*", "y*", "z!")
	right(t, `secret key, m; public salt;
		fn g(x) = x; fn f(x, y) = x ^ y & ~g(x);
		t = f(key, m); for i in 0 .. 3 { u = t <<< i; t = u + salt; }
		out o = t; show s = salt; secret last; out p = sel(last, t, 0x7f); show q = -1;`, "o*", "s!", "p*", "q!")
	var s strings.Builder
	var want []string
	s.WriteString("secret a;public p;")
	for k := range 300 {
		word, value, as := "out", "p", ""
		switch {
		case k*k%7 == 2:
			word, as = "show", "!"
		case k*k%5 == 1:
			value, as = "a", "*"
		}
		fmt.Fprintf(&s, "%s o%d=%s;", word, 7*k%300, value)
		want = append(want, fmt.Sprint("o", 7*k%300, as))
	}
	right(t, s.String(), want...)
}

// secrecy looks whether an expression is secret, of a and b, which are, and p and q, which are not.
func secrecy(t *testing.T, expr string, secret bool) {
	t.Helper()
	const ahead = "secret a, b; public p, q; fn f(x) = x; fn g(x, y) = x; fn h(x, y) = y + 1; fn k(x) = 7; "
	out, shown := "o", "s!"
	if secret {
		out = "o*"
	}
	right(t, ahead+"out o = "+expr+";", out)
	right(t, ahead+"t = "+expr+"; out o = t;", out)
	right(t, ahead+"t = a; t = "+expr+"; u = t; out o = u;", out)
	right(t, ahead+"for i in 0 .. 1 { t = "+expr+"; } t = "+expr+"; out o = f(t);", out)
	right(t, ahead+"fn z(a, b, p, q) = "+expr+"; out o = z(a, b, p, q);", out)
	right(t, ahead+"fn z(p, q, a, b) = "+expr+"; out o = z(1, p, a, b);", out)
	right(t, ahead+"fn z(a, b, p, q) = "+expr+"; show s = z(p, q, 1, p);", shown)
	if secret {
		wrong(t, api.ErrFlow, ahead+"@show s = "+expr+";")
		return
	}
	right(t, ahead+"show s = "+expr+";", shown)
}

// P13.2: secret words through each kind of node.
func TestSecret(t *testing.T) {
	for _, s := range []string{
		"a", "b", "(a)", "~a", "-a", "~-~a", "a << 3", "b >> 0", "a <<< 31", "a << 40", "a << (1 << 1)", "a << 1 >> 2", "a ^ a", "a - a", "a & 0", "a | ~0", "sel(a, 1, 2)", "sel(1, a, 2)", "sel(1, 2, a)", "sel(p, p, b)", "sel(a, a, a)", "sel(0, 1, sel(1, b, 2))",
		"f(a)", "f(f(a))", "f(~b)", "g(a, 1)", "g(a, a)", "g(a, p)", "h(1, a)", "h(p, b)", "f(g(a, 1))", "g(f(a), f(p))", "h(a, h(p, a))", "f(a) + k(a)", "1 + (2 + (3 + a))", "p + q + p + b", "((a + p) << 2) & 7", "~(p ^ -(q | a))", "k(b) | h(k(a), sel(k(b), 1, f(b)))",
	} {
		secrecy(t, s, true)
	}
	for _, s := range []string{"1", "p", "q", "(p)", "~p", "-q", "p << 3", "1 << 3", "p >> 31", "p <<< 32", "sel(p, q, 1)", "sel(1, 2, 3)", "f(1)", "f(p)", "g(1, a)", "g(p, b)", "h(a, 1)", "h(b, p)", "k(a)", "k(p)", "k(k(b))", "f(g(p, a))", "g(g(p, a), b)", "h(f(a), k(b))", "k(a) + p", "~k(a)", "sel(k(a), h(b, q), g(1, a))", "k(sel(a, a, b))", "(p + q & 1) << 2"} {
		secrecy(t, s, false)
	}
	for _, sign := range []string{"+", "-", "&", "|", "^"} {
		for _, x := range []string{"a", "b", "p", "q", "1"} {
			for _, y := range []string{"a", "b", "p", "q", "0"} {
				secrecy(t, x+" "+sign+" "+y, strings.ContainsAny(x+y, "ab"))
			}
		}
	}
}

// P13.2: a variable is as it was set last.
func TestVariables(t *testing.T) {
	right(t, "secret a; x = a; out o = x; x = 1; out p = x; x = a; out q = x; x = x; out r = x; x = 2; show s = x;", "o*", "p", "q*", "r*", "s!")
	right(t, "secret a; x = a; y = x; x = 1; out o = y; out p = x; y = x; out q = y;", "o*", "p", "q")
	right(t, "secret a; x = 1; y = x; x = a; out o = y; y = y + x; out p = y; y = y - y; out q = y; y = 0; out r = y;", "o", "p*", "q*", "r")
	right(t, "public x; secret y; z = x; z = z + y; out o = z; z = x; show p = z;", "o*", "p!")
	right(t, "secret a; x = 1; out x = x; x = a; out y = x; fn f(x) = x; out z = f(1);", "x", "y*", "z")
	wrong(t, api.ErrFlow, "secret a; x = 1; show o = x; x = a; @show p = x; x = 1;")
	wrong(t, api.ErrFlow, "secret a; x = a; @show o = x; x = 1; show p = x;")
	// A word that is secret no more is no constant yet.
	wrong(t, api.ErrType, "secret a; x = a; x = 1; y = a << @x;")
	wrong(t, api.ErrFlow, "secret a; x = 1; x = a; y = 1 << @x;")
}

// P13.2: a function's word is what its expression comes to, call by call.
func TestFunctions(t *testing.T) {
	right(t, "secret a; public p; fn f(x) = x; out o = f(a); out q = f(p); out r = f(a) ^ f(p); show s = f(f(p));", "o*", "q", "r*", "s!")
	right(t, "secret a; fn f(x, y, z) = y; fn g(x) = f(x, 1, x); fn h(x) = f(1, x, 2); out o = g(a); out p = h(a); out q = h(g(a)); out r = g(h(a));", "o", "p*", "q", "r")
	right(t, "secret x; public y; fn f(y, x) = y; out o = f(x, y); out p = f(y, x);", "o*", "p")
	right(t, "secret x; public y; fn f(y) = y; fn g(x) = f(x) + f(1); out o = g(x); out p = g(y); out q = f(y);", "o*", "p", "q")
	right(t, "secret i; fn f(i) = i; out o = f(i); for j in 0 .. 2 { x = f(j); } out p = f(1);", "o*", "p")
	right(t, "secret a; fn f(t) = t; t = a; out o = f(1); out p = t; t = f(2); out q = t;", "o", "p*", "q")
}

// P13.3: what isn't run isn't looked at.
func TestNotRun(t *testing.T) {
	right(t, "secret a; fn f(x) = 1 << x; out o = a;", "o*")
	right(t, "secret a; fn f(x) = 1 << x; fn g(x) = f(x); for i in 1 .. 1 { x = f(a); y = a << a; for j in a .. a { } } out o = 1;", "o")
	right(t, "x = 1; for i in 2 .. 1 { for j in x .. x { } y = 1 << x; } show o = x;", "o!")
	right(t, "fn f(x) = 1 << sel(x, x, x); fn g(x) = f(x) << x; for i in 1 .. 0 { y = g(i); } out o = 1;", "o")
}

// P13.2, P13.3: loops are gone through round by round; behind them stays what was set in the last one.
func TestLoops(t *testing.T) {
	right(t, "secret a; x = 1; for i in 0 .. 0 { x = a; } out o = x; for i in 0 .. 1 { x = a; } out p = x; for i in 0 .. 0 { x = 1; } out q = x; for i in 5 .. 9 { x = i; } show r = x;", "o", "p*", "q*", "r!")
	// What a round sets is read in the next one.
	for rounds, as := range []string{"", "", "", "*", "*", "*"} {
		right(t, fmt.Sprintf("secret a; x = 0; y = 0; z = 0; for i in 0 .. %d { z = y; y = x; x = a; } out o = z;", rounds), "o"+as)
	}
	for rounds, as := range []string{"*", "*", "*", "", "", ""} {
		right(t, fmt.Sprintf("secret a; x = a; y = a; z = a; for i in 10 .. %d { z = y; y = x; x = i; } out o = z;", 10+rounds), "o"+as)
	}
	right(t, "secret a; x = 0; for i in 0 .. 3 { for j in i .. 2 { t = x; } t = x; x = a; u = t; x = u; } out o = x;", "o")
	right(t, "secret a; x = 0; y = 0; for i in 0 .. 2 { for j in 0 .. i { y = x; } x = a; } out o = y;", "o*")
	right(t, "secret a; x = 0; y = 0; for i in 0 .. 2 { for j in i .. 1 { y = x; } x = a; } out o = y;", "o")
	right(t, "secret a; x = a; for i in 0 .. 3 { for j in 0 .. 3 { x = i + j; } x = x + 1; } show o = x;", "o!")
	wrong(t, api.ErrFlow, "secret a; x = 0; for i in 0 .. 3 { x = x + a; } @show o = x;")
	// In the third round it is secret.
	right(t, "secret a; x = 0; y = 0; for i in 0 .. 2 { for j in 0 .. 1 << (i & 0) { } z = y; y = x; x = a; } out o = x;", "o*")
	// A loop's variable is what it is within its loop alone: as another loop's, as a variable, as a parameter.
	right(t, "secret a; for i in 0 .. 2 { x = a << i; } for i in 4 .. 6 { x = a << i; } i = a; out o = i; for j in 0 .. 1 { i = j; } out p = i; ", "o*", "p")
	wrong(t, api.ErrType, "for i in 0 .. 2 { x = 1 << i; } i = 1; x = 1 << @i;")
	wrong(t, api.ErrFlow, "secret a; for i in 0 .. 2 { x = 1 << i; } i = a; x = 1 << @i;")
	wrong(t, api.ErrType, "for i in 0 .. 2 { for t in 0 .. 1 { x = 1 << t; } t = i; y = 1 << @t; }")
	right(t, "for i in 0 .. 3 { for t in i .. 3 { x = 1 << t; } t = i; y = t; }")
	wrong(t, api.ErrType, "for i in 0 .. 3 { for t in i .. 2 { x = 1 << t; } t = i; for j in 0 .. 1 { y = 1 << @t; } }")
	// A variable of a loop is none behind it, so that another one may be of that name.
	right(t, "secret a; for i in 0 .. 2 { t = a; u = t; } t = 1; out o = t; for i in 0 .. 2 { u = a; for v in 0 .. i { u = 1; } } for u in 0 .. 2 { x = 1 << u; } public u; show p = u;", "o", "p!")
}

// P13.3: a loop goes from the first constant, as long as it is below the second one, both as words.
func TestRounds(t *testing.T) {
	for bounds, rounds := range map[string]int{
		"0 .. 0": 0, "0 .. 1": 1, "1 .. 0": 0, "3 .. 8": 5, "8 .. 3": 0, "0xffffffff .. 0": 0, "-1 .. 1": 0, "-3 .. -1": 2, "-1 .. -1": 0, "-1 .. -2": 0, "0 - 5 .. ~0": 4, "4294967294 .. 4294967295": 1, "4294967295 .. 4294967295": 0,
		"0x7ffffffe .. 0x80000001": 3, "0x80000000 .. 0x7fffffff": 0, "~5 .. ~1": 4, "1 << 2 .. 1 << 3": 4, "1 << 32 .. 2": 2, "(1 + 2) & 6 .. (9 ^ 4 | 2) - 8": 5, "1 <<< 33 .. 80 >> 4": 3, "0 .. 1 << 31 >> 30": 2,
	} {
		s := "secret a; x0 = a;"
		for k := 1; k <= 8; k++ {
			s += fmt.Sprintf("x%d = 0;", k)
		}
		s += "for i in " + bounds + " {"
		for k := 8; k > 0; k-- {
			s += fmt.Sprintf("x%d = x%d;", k, k-1)
		}
		s += "}"
		var want []string
		for k := 1; k <= 8; k++ {
			s += fmt.Sprintf("out o%d = x%d;", k, k)
			as := ""
			if k <= rounds {
				as = "*"
			}
			want = append(want, fmt.Sprint("o", k, as))
		}
		right(t, s, want...)
	}
	// Loops in loops, by each other's variables.
	right(t, "secret a; x = a; y = 0; z = 0; w = 0; for i in 0 .. 4 { for j in i + 1 .. 3 { for k in j - i .. i + j - 1 { w = z; z = y; y = x; } } } out o = y; out p = z; out q = w;", "o*", "p", "q")
	right(t, "secret a; x = a; y = 0; z = 0; w = 0; for i in 0 .. 2 { for j in i + 1 .. 4 { for k in j - i .. i + j - 1 { w = z; z = y; y = x; } } } out o = y; out p = z; out q = w;", "o*", "p*", "q")
}

// amounts are what is no constant, with what is wrong first in it; of a, which is secret, and p, which is not.
func amounts() map[string]api.Errno {
	return map[string]api.Errno{
		"@a": api.ErrFlow, "@p": api.ErrType, "@(a)": api.ErrFlow, "@((p))": api.ErrType, "~@a": api.ErrFlow, "-~@p": api.ErrType, "(@a + p)": api.ErrFlow, "(@p + a)": api.ErrType, "(1 + @a)": api.ErrFlow, "(1 - @p)": api.ErrType, "(1 + 2 & 3 ^ @a)": api.ErrFlow,
		"(@a << p)": api.ErrFlow, "(@p << a)": api.ErrType, "(1 << @a)": api.ErrFlow, "(1 >> (2 <<< @p))": api.ErrType, "((1 << @p) << a)": api.ErrType, "((1 << 2) << @a)": api.ErrFlow, "((2 | @p) + (3 & a))": api.ErrType, "((2 | 1) + (3 & @a))": api.ErrFlow,
		"@sel(1, 2, 3)": api.ErrType, "@sel(a, a, a)": api.ErrType, "(1 + @sel(a, p, p))": api.ErrType, "@f(1)": api.ErrType, "@f(a)": api.ErrType, "~(1 ^ @f(p))": api.ErrType, "@f(f(a))": api.ErrType, "(@a + f(1))": api.ErrFlow, "(@f(1) + a)": api.ErrType, "@(f(a))": api.ErrType, "(@(a) + 1)": api.ErrFlow,
		"(1 + (2 + (@p + a)))": api.ErrType, "-(~(-@a) + p)": api.ErrFlow,
	}
}

// P13.3: an amount that is no constant, of each shift and wherever it stands: at the first node that is no part of one.
func TestAmounts(t *testing.T) {
	for amount, e := range amounts() {
		for _, shift := range []string{"<<", ">>", "<<<"} {
			wrong(t, e, "secret a; public p; fn f(x) = x; x = 1 "+shift+" "+amount+";")
			wrong(t, e, "secret a; public p; fn f(x) = x; fn g(a, p) = 1 "+shift+" "+amount+"; x = g(a, p);")
		}
		for _, s := range []string{
			"x = EXPR;", "out o = EXPR;", "show o = EXPR;", "show o = a + EXPR;", "x = ~-EXPR;", "x = a + (EXPR);", "x = EXPR + a;", "x = sel(a, p, EXPR);", "x = f(EXPR);", "x = f(f(a + EXPR));", "x = a << 1 << AMOUNT;", "x = (a << AMOUNT) <<< 2;", "for i in 0 .. 1 { x = EXPR; }", "for i in 0 .. 3 { for j in i .. 1 { y = j + EXPR; } }",
			"for i in AMOUNT .. 1 { }", "for i in 0 .. AMOUNT { }", "for i in 0 .. 1 { for j in AMOUNT .. i { } }", "for i in 0 .. 1 { for j in 1 .. AMOUNT { x = 1 << a; } }",
		} {
			s = strings.ReplaceAll(strings.ReplaceAll(s, "EXPR", "(1 << AMOUNT)"), "AMOUNT", amount)
			s = "secret a; public p; fn f(x) = x; " + s
			wrong(t, e, s)
			wrong(t, e, s+" y = 1 << p; z = 1 << a; show q = a;")
			refused(t, "secret a; y = 1 << a; "+strings.Replace(s[len("secret a; "):], mark, "", 1), 19, api.ErrFlow)
			refused(t, "public p; y = 1 << p; secret a;"+strings.Replace(s[len("secret a; public p;"):], mark, "", 1), 19, api.ErrType)
		}
	}
}

// P13.3: what is a constant: numbers, loops' variables, and what is made of them.
func TestConstantAmounts(t *testing.T) {
	for _, amount := range []string{"0", "3", "31", "32", "4294967295", "~0", "-1", "1 + 2", "1 - 2", "6 & 3 | 1 ^ 5", "1 << 2", "1 >> (2 <<< 3)", "i", "j", "i + j", "~i", "-j", "i << j", "1 << i >> j", "(i ^ j) & (i | 3)", "((i))"} {
		s := "secret a; public p; for i in 0 .. 2 { for j in 0 .. i + 1 { x = a << (AMOUNT); y = p >> (AMOUNT); for k in AMOUNT .. 0 { } for k in 0 .. (AMOUNT) & 3 { z = a <<< (AMOUNT); } } }"
		right(t, strings.ReplaceAll(s, "AMOUNT", amount))
	}
	for s, e := range map[string]api.Errno{
		"x = 3; y = 1 << @x;": api.ErrType, "for i in 0 .. 1 { x = i; y = 1 << @x; }": api.ErrType, "for i in 0 .. 1 { x = i; for j in 0 .. @x { } }": api.ErrType, "x = 0; for i in @x .. 1 { }": api.ErrType, "secret a; x = a; y = 1 << @x;": api.ErrFlow,
		"secret a; x = a + 1; for i in 0 .. 1 << 2 { y = 1 << i + @x; }": api.ErrFlow, "secret a; x = a; x = 0; y = 1 << @x;": api.ErrType, "secret a; for i in 0 .. 2 { x = a; } x = a; y = 1 << @x;": api.ErrFlow,
		"out o = 1; o = 2; y = 1 << @o;": api.ErrType, "public p; secret s; y = 1 << @p + s;": api.ErrType, "public p; secret s; y = 1 << @s + p;": api.ErrFlow,
	} {
		wrong(t, e, s)
	}
	// What is secret in the second round alone.
	wrong(t, api.ErrType, "secret a; x = 0; for i in 0 .. 2 { y = 1 << @x; x = a; }")
	wrong(t, api.ErrFlow, "secret a; x = 0; y = 0; for i in 0 .. 2 { for j in i .. 1 { y = x; } for j in 1 .. i + 1 { z = 1 << @x; } x = a; }")
}

// P13.3: in a function's expression its parameters are no constants, whatever the parts are; their words are as those.
func TestAmountsInFunctions(t *testing.T) {
	for s, e := range map[string]api.Errno{
		"fn f(x) = 1 << @x; y = f(3);": api.ErrType, "public p; fn f(x) = 1 << @x; y = f(p);": api.ErrType, "secret a; fn f(x) = 1 << @x; y = f(a);": api.ErrFlow, "fn f(x) = 1 << @x; for i in 0 .. 1 { y = f(i); }": api.ErrType, "fn f(i) = 1 << @i; for i in 0 .. 1 { y = f(i); }": api.ErrType,
		"secret a; fn f(x, y) = y << @x; z = f(1, a);": api.ErrType, "secret a; fn f(x, y) = y << @x; z = f(a, 1);": api.ErrFlow, "secret a; fn f(x, y) = 1 << (@x + y); z = f(1, a);": api.ErrType, "secret a; fn f(x, y) = 1 << (@y + x); z = f(1, a);": api.ErrFlow,
		"secret a; fn f(x) = 1 << @x; fn g(x) = f(x); y = g(a);": api.ErrFlow, "secret a; fn f(x) = 1 << @x; fn g(x, y) = f(y); y = g(a, 1);": api.ErrType, "secret a; fn k(x) = 1; fn f(x) = 1 << @x; y = f(k(a));": api.ErrType, "secret a; fn f(x) = 1 << @x; y = f(1) + f(a);": api.ErrType, "secret a; fn f(x) = 1 << @x; y = f(a) + f(1);": api.ErrFlow,
		"secret a; fn f(x) = 1 << @sel(x, x, x); y = f(a);": api.ErrType, "secret a; fn g(x) = x; fn f(x) = 1 << @g(x); y = f(a);": api.ErrType, "secret x; fn f(x) = 1 << @x; y = f(1);": api.ErrType, "secret x; fn f(y) = 1 << @y; z = 1; y = f(z); y = f(x);": api.ErrType,
		// The parts go ahead of the function's expression, and a part of what is behind it.
		"secret a; fn f(x) = 1 << x; y = f(1 << @a);": api.ErrFlow, "secret a; public p; fn f(x, y) = 1 << x; y = f(1 << @p, 1 << a);": api.ErrType, "secret a; fn f(x) = 1 << x; fn g(x, y) = x; y = g(2, f(1 << @a));": api.ErrFlow, "secret a; fn f(x) = 1 << @x; fn g(x, y) = x; y = g(f(2), f(1 << a));": api.ErrType,
		"secret a; fn f(x) = 1 << @x; fn g(x, y) = 1 << y; y = g(f(a), 1 << a);": api.ErrFlow, "secret a; public p; fn f(x) = x; fn g(x) = (1 << @x) + f(x); y = f(g(p)) + (1 << a);": api.ErrType,
	} {
		wrong(t, e, s)
	}
	right(t, "secret a; fn f(x) = x << 3 >> (1 << 2) <<< ~0; out o = f(a); show s = f(1);", "o*", "s!")
}

// P13.3: an amount ahead of the parts; parts in order; statements in order, as they run.
func TestFirstOfTwo(t *testing.T) {
	for s, e := range map[string]api.Errno{
		"x = (1 << p) << @a;": api.ErrFlow, "x = (1 << a) << @p;": api.ErrType, "x = (1 << @p) << 1;": api.ErrType, "x = ((1 << a) << a) << @p;": api.ErrType, "x = ((1 << a) << @p) << 3;": api.ErrType, "x = (1 << @p) + (1 << a);": api.ErrType, "x = (1 << @a) + (1 << p);": api.ErrFlow, "x = ~(1 << @a) & (1 << p);": api.ErrFlow,
		"x = sel(1 << @p, 1 << a, 1 << a);": api.ErrType, "x = sel(1, 1 << @a, 1 << p);": api.ErrFlow, "x = sel(1, 2, 1 << @p) << 1;": api.ErrType, "x = sel(1, 2, 1 << p) << @a;": api.ErrFlow, "x = f(1 << a) << @p;": api.ErrType,
		"show o = a + (1 << @p);": api.ErrType, "show o = p + (1 << @a);": api.ErrFlow, "@show o = a; x = 1 << p;": api.ErrFlow, "x = 1 << @p; show o = a;": api.ErrType, "@show o = a; show q = b;": api.ErrFlow, "show o = p; @show q = b; show r = a;": api.ErrFlow,
		"for i in @p .. a { }": api.ErrType, "for i in @a .. p { }": api.ErrFlow, "for i in 0 .. @p { x = 1 << a; }": api.ErrType, "for i in (1 << @a) .. p { }": api.ErrFlow, "for i in 0 .. 1 { x = 1 << @a; y = 1 << p; }": api.ErrFlow, "for i in 0 .. 2 { for j in i .. @p { } x = 1 << a; }": api.ErrType,
		"for i in 0 .. 0 { x = 1 << a; } y = 1 << @p;": api.ErrType, "for i in 0 .. 2 { for j in 0 .. i { x = 1 << @a; } }": api.ErrFlow, "for i in 0 .. 2 { for j in 0 .. i { x = 1 << a; } x = 1 << @p; }": api.ErrType,
		"x = 1 << @p; for i in 0 .. 9999 { }": api.ErrType, "@for i in 0 .. 9999 { } x = 1 << p;": api.ErrResource, "for i in 0 .. 9999 { x = 1 << @p; }": api.ErrType, "for i in @a .. 9999 { }": api.ErrFlow, "for i in 0 .. 1 { @for j in i .. 9999 { } x = 1 << a; }": api.ErrResource, "@show o = a; for i in 0 .. 2001 { }": api.ErrFlow, "@for i in 0 .. 2001 { } show o = a;": api.ErrResource,
		// What is wrong in a later round alone, ahead of what is wrong behind the loop, and in the loop's text.
		"y = 0; for i in 0 .. 2 { for j in 1 .. i + 1 { x = 1 << @y; } y = a; } x = 1 << p;": api.ErrFlow, "for i in 0 .. 5 { for j in 0 .. i & ~3 { x = 1 << @p; } }": api.ErrType,
	} {
		wrong(t, e, "secret a, b; public p; fn f(x) = x; "+s)
	}
}

// P13.3: rounds in all, of loops behind and in one another: 2000 of them, and one more.
func TestMaxRounds(t *testing.T) {
	for _, s := range []string{
		"for i in 0 .. 2000 { }", "for i in 5 .. 2005 { x = 1; }", "for i in -2001 .. -1 { }", "for i in 0 .. 1000 { } for i in 0 .. 1000 { }", "for i in 0 .. 1999 { } for i in 0 .. 1 { } for i in 0 .. 0 { }", "for i in 0 .. 1000 { for j in 0 .. 1 { } }", "for i in 0 .. 1 { for j in 0 .. 1999 { } }",
		"for i in 0 .. 40 { for j in 0 .. 49 { } }", "for i in 0 .. 2000 { for j in 0 .. 0 { } for j in i .. 0 { } }", "for i in 0 .. 10 { for j in 0 .. 9 { for k in 0 .. 20 { } } } for i in 0 .. 100 { }", "for i in 0 .. 62 { for j in 0 .. i { } } for i in 0 .. 47 { }", "for i in 9999 .. 0 { }",
	} {
		right(t, s)
		right(t, "secret a; "+s+" out o = a; for i in 1 .. 1 { } show p = 3;", "o*", "p!")
		wrong(t, api.ErrFlow, "secret a; "+s+" x = 1 << @a;")
	}
	for _, s := range []string{
		"@for i in 0 .. 2001 { }", "@for i in 0 .. 4294967295 { }", "@for i in 0 .. ~0 { x = 1; }", "@for i in 5 .. 2006 { }", "@for i in -2002 .. -1 { }", "for i in 0 .. 2000 { } @for i in 0 .. 1 { }", "for i in 0 .. 1000 { } for i in 0 .. 999 { } @for i in 0 .. 2 { }", "for i in 0 .. 1000 { @for j in 0 .. 2 { } }", "for i in 0 .. 1 { @for j in 0 .. 2000 { } }", "@for i in 0 .. 1001 { for j in 0 .. 1 { } }",
		"@for i in 0 .. 2 { for j in 0 .. 1999 { } }", "for i in 0 .. 2 { @for j in 0 .. 2000 { } }", "for i in 0 .. 2 { for j in 0 .. 1998 { } @for j in 0 .. 2 { } }", "for i in 0 .. 40 { @for j in 0 .. 50 { } }", "for i in 0 .. 2000 { for j in 0 .. 0 { } for j in 1 .. 0 { } } @for k in 1 .. 2 { }", "for i in 0 .. 2000 { @for j in 0 .. i { } }", "for i in 0 .. 10 { for j in 0 .. 10 { @for k in 0 .. 20 { } } }",
		"for i in 0 .. 62 { for j in 0 .. i { } } @for i in 0 .. 48 { }",
	} {
		wrong(t, api.ErrResource, s)
		wrong(t, api.ErrResource, s+" secret a; out o = 1 << a;")
	}
}

// chain is functions of which each calls the one ahead; f0 calls none.
func chain(most int) string {
	s := strings.Builder{}
	s.WriteString("fn f0(x) = x;")
	for k := range most {
		fmt.Fprintf(&s, "fn f%d(x) = f%d(x);", k+1, k)
	}
	return s.String()
}

// P13.3: calls in calls: one may lie in 60 others.
func TestMaxDepth(t *testing.T) {
	for _, most := range []int{1, 59, 60} {
		s := "secret a;" + chain(most)
		call := fmt.Sprintf("f%d(", most)
		right(t, s+"out o = "+call+"a); show p = "+call+"1) + "+call+"2); for i in 0 .. 3 { x = "+call+"i); }", "o*", "p!")
	}
	for _, most := range []int{61, 62, 75} {
		s := chain(most)
		fault := fmt.Sprintf("f%d(x) = ", most-60)
		s = strings.Replace(s, fault, fault+mark, 1)
		wrong(t, api.ErrResource, s+fmt.Sprintf("x = f%d(1);", most))
		wrong(t, api.ErrResource, s+fmt.Sprintf("x = f60(1) + f%d(1);", most))
		right(t, strings.Replace(s, mark, "", 1)+"show o = f60(2);", "o!")
	}
	// sel is called as others are.
	s := strings.Replace(chain(61), "f0(x) = x;", "f0(x) = sel(x, 1, 2);", 1)
	right(t, s+"show o = f59(1);", "o!")
	wrong(t, api.ErrResource, strings.Replace(s, "sel", mark+"sel", 1)+"x = f60(1);")
	// As deep as texts go.
	right(t, "secret a; fn f(x) = x; out o = "+strings.Repeat("f(", 60)+"a"+strings.Repeat(")", 60)+"; out p = "+strings.Repeat("sel(1, 2, ", 60)+"3"+strings.Repeat(")", 60)+";", "o*", "p")
	right(t, "secret a; fn g(x) = x; fn f(x) = g(x); out o = "+strings.Repeat("f(", 60)+"a"+strings.Repeat(")", 60)+";", "o*")
	wrong(t, api.ErrResource, "secret a; fn h(x) = x; fn g(x) = @h(x); fn f(x) = g(x); out o = "+strings.Repeat("f(", 60)+"a"+strings.Repeat(")", 60)+";")
	// A call that is done is none of those around another one.
	right(t, "fn f(x) = x; show o = f(1)"+strings.Repeat(" + f(1)", 300)+";", "o!")
	// What is wrong in the parts goes ahead of what is too deep in the function.
	wrong(t, api.ErrFlow, "secret a;"+chain(61)+"x = f61(1 << @a);")
	wrong(t, api.ErrType, "secret a;"+chain(61)+"x = (1 << (a + 1)) << @f61(a);")
}

// sum is an expression of so many nodes, an odd number.
func sum(nodes int) string {
	return "1" + strings.Repeat("+1", nodes/2)
}

// many is statements with so many nodes of expressions, at least 20; behind them is a variable x.
func many(nodes int) string {
	s := fmt.Sprintf("x=1;for i in 0..%d{x=%s;}", (nodes-1)/19, sum(19))
	return s + strings.Repeat("x=1;", (nodes-1)%19)
}

// P13.3: nodes of expressions in all, up to a call and with it: 20000 of them, and one more.
func TestMaxNodes(t *testing.T) {
	const f = "fn f(y) = y; "
	for _, s := range []string{"f(1)", "sel(1, 2, 3)", "f(sum)", "f(x)"} {
		s = strings.Replace(s, "sum", sum(99), 1)
		right(t, f+many(19999)+"show o = "+s+";", "o!")
		wrong(t, api.ErrResource, f+many(20000)+"show o = @"+s+";")
		right(t, f+many(19998)+"show o = ~"+s+";", "o!")
		wrong(t, api.ErrResource, f+many(19999)+"show o = ~@"+s+";")
		wrong(t, api.ErrResource, f+many(19998)+"show o = 1 + @"+s+";")
		right(t, f+many(19998)+"show o = "+s+" + 1;", "o!")
		wrong(t, api.ErrResource, f+many(19997)+"x = "+s+"; show o = @"+s+";")
		wrong(t, api.ErrResource, f+many(19999)+"x = f(@"+s+");")
		right(t, f+many(19998)+"x = f("+s+");")
		// The amount goes ahead of the call that is shifted.
		wrong(t, api.ErrType, f+many(20000)+"y = "+s+" << @x;")
		wrong(t, api.ErrResource, f+many(20000)+"y = @"+s+" << 1;")
	}
	// Without calls there may be more.
	right(t, many(20000)+"secret a; out o = x; out p = x + a; for i in 0 .. 50 { x = "+sum(199)+"; }", "o", "p*")
	right(t, "for i in 0 .. 2000 { x = "+sum(99)+"; }")
	// A shift is one node, and its amount is none; nor are a loop's constants.
	right(t, f+many(19997)+"x = 1 << ("+sum(99)+"); show o = f(1);", "o!")
	wrong(t, api.ErrResource, f+many(19998)+"x = 1 << ("+sum(99)+"); show o = @f(1);")
	right(t, f+many(19999)+"for i in "+sum(99)+" .. "+sum(99)+" + 3 { } show o = f(1);", "o!")
	right(t, f+many(19998)+"for i in 0 .. 1 << (2 + 1) >> 3 { x = 1; } show o = f(1);", "o!")
	wrong(t, api.ErrResource, f+many(19999)+"for i in 0 .. 1 << (2 + 1) >> 3 { x = 1; } show o = @f(1);")
	// A function's expression is counted call by call.
	g := "fn g(y) = " + sum(199) + "; fn h(y) = sel(y, 1, 1); "
	right(t, g+"for i in 0 .. 99 { x = g(1); } show o = g(2);", "o!")
	right(t, g+"x = 1; for i in 0 .. 99 { x = g(1); } show o = g(2);", "o!")
	right(t, g+"for i in 0 .. 100 { x = g(1); }")
	wrong(t, api.ErrResource, g+"for i in 0 .. 101 { x = @g(1); }")
	right(t, g+"for i in 0 .. 2000 { x = h(1); }")
	wrong(t, api.ErrResource, g+"x = "+sum(199)+"; for i in 0 .. 99 { x = g(1); } show o = @g(2);")
	right(t, "fn h(y) = sel(y, 1, 1); "+many(19997)+"show o = h(2);", "o!")
	wrong(t, api.ErrResource, "fn h(y) = @sel(y, 1, 1); "+many(19998)+"show o = h(2);")
	// Calls of which each is two others end, though all of them would not.
	s := "fn f0(x) = x;"
	for k := range 50 {
		s += fmt.Sprintf("fn f%d(x) = f%d(x) + f%d(x);", k+1, k, k)
	}
	if _, _, _, err := flow.Program(s + "x = f50(1);"); err != api.ErrResource {
		t.Errorf("calls of which each is two others: %v", err)
	}
	right(t, s+"show o = f11(1);", "o!")
}

// P13.3: a shown output that is secret: at it, behind its expression.
func TestShown(t *testing.T) {
	for _, expr := range []string{"a", "~a", "a ^ a", "p + a", "f(a)", "sel(p, 1, a)", "a << 3", "x", "x & 0"} {
		for _, s := range []string{"@show o = EXPR;", "show q = p; @show o = EXPR; show r = p;", "out q = a; @show o = EXPR; show q2 = a;", "@show a = EXPR; x = 1 << p;", "for i in 0 .. 2 { y = 1; } \n@show o = EXPR;"} {
			wrong(t, api.ErrFlow, "secret a; public p; fn f(x) = x; x = a; "+strings.ReplaceAll(s, "EXPR", expr))
		}
	}
	right(t, "secret a; public p; fn k(x) = 1; show o = p; show q = k(a); x = a; x = p; show r = x;", "o!", "q!", "r!")
}

// P13.3: names' error, and its place, goes ahead of all else.
func TestWrongNames(t *testing.T) {
	for _, s := range []string{
		"secret a; x = 1 << a; y = @b;", "x = 1 << @b;", "public p; x = (1 << @b) << p;", "secret a; show o = a; @secret a;", "for i in 0 .. 9999 { } x = @i;", "secret a; for i in a .. a { x = @y; }", "for i in 0 .. 0 { x = @y; }", "fn f(x) = 1 << @y;", "fn f(x) = 1 << x; y = f(1); z = @f(1, 2);", "secret a; show o = a; @out o = 1;",
		"for i in 0 .. 2 { t = 1; } x = 1 << @t;", "for i in 0 .. @i { }", "secret a; x = 1 << a; for i in @i .. a { }", "secret a; @a = 1 << a;", "secret a; for i in 0 .. 1 << a { } @for a in 0 .. 1 { }", chain(61) + "x = f61(1); y = @z;", "fn f(x) = x; " + many(20000) + "x = f(1); @f = 1;",
	} {
		wrong(t, api.ErrType, s)
	}
}

// P13.4: the errors of parse go ahead, with their places, whatever the flow is.
func TestNoProgram(t *testing.T) {
	for s, e := range map[string]api.Errno{
		"x = @;": api.ErrSyntax, "secret a; x = 1 << a@": api.ErrSyntax, "secret a; show o = a; out p = @;": api.ErrSyntax, "x = a @? b;": api.ErrSyntax, "for i in 0 .. 1 { @out o = i; }": api.ErrSyntax, "for i in 0 .. 9999 { } y = @0x;": api.ErrSyntax, "x = 1 << a; secret @for;": api.ErrSyntax, "@}": api.ErrSyntax,
		"x = 1 << a; y = @4294967296;": api.ErrResource, "secret a; x = a << " + strings.Repeat("(", 61) + "@a": api.ErrResource, "@x = a;" + strings.Repeat(" ", 20000): api.ErrResource, strings.Repeat("x=a;", 1000) + "@": api.ErrResource,
	} {
		ahead, behind, _ := strings.Cut(s, mark)
		refused(t, ahead+behind, len(ahead), e)
	}
}

// P13.5: without secret inputs there is no output that is secret, and no ErrFlow; what was told by ErrFlow of an amount is ErrType.
func TestNoSecrets(t *testing.T) {
	for amount, e := range amounts() {
		ahead, behind, _ := strings.Cut("public a; public p; fn f(x) = x; x = 1 << "+amount+";", mark)
		refused(t, ahead+behind, len(ahead), api.ErrType)
		if e == api.ErrFlow {
			wrong(t, e, strings.Replace(ahead, "public", "secret", 1)+mark+behind)
		}
	}
	right(t, "public a, b; fn f(x) = x; t = f(a); for i in 0 .. 3 { t = t <<< i ^ b; } show o = t; out p = sel(a, b, t); show q = a;", "o!", "p", "q!")
	right(t, "show o = 1; out p = 2;", "o!", "p")
}

// What is known of one program is not known in the next one.
func TestFromArgumentsAlone(t *testing.T) {
	for range 2 {
		right(t, "secret a; fn f(x) = x; b = a; out o = f(b); for i in 0 .. 1500 { }", "o*")
		right(t, "public a; fn f(x) = 1; b = a; show o = f(b); for i in 0 .. 1500 { }", "o!")
		wrong(t, api.ErrFlow, "secret i; for j in 0 .. 3 { x = 1 << @i; }")
		wrong(t, api.ErrType, "i = 1; for j in 0 .. 3 { x = 1 << @i; }")
		right(t, "fn f(x) = x; "+many(19999)+"out o = f(1);", "o")
	}
}
