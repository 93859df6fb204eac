package eval_test

import (
	"fmt"
	"reflect"
	"slices"
	"strings"
	"testing"

	"bauta/api"
	"bauta/eval"
	"bauta/flow"
	"bauta/parse"
)

// tree is what parse reads of s, which is a program.
func tree(t *testing.T, s string) api.Node {
	t.Helper()
	n, at, err := parse.Parse(s)
	if err != api.OK {
		t.Fatalf("Parse(%.300q): %d, %v", s, at, err)
	}
	return n
}

// copied is n in memory of its own.
func copied(n api.Node) api.Node {
	n.P = slices.Clone(n.P)
	n.L = slices.Clone(n.L)
	for k := range n.L {
		n.L[k] = copied(n.L[k])
	}
	return n
}

// tell is what a test was about as a text, as far as it is of use.
func tell(x any) string {
	return fmt.Sprintf("%.300s", fmt.Sprintf("%+v", x))
}

// words are a list of them.
func words(l ...uint32) []uint32 { return l }

// runs looks that Run tells just this of n, and leaves all that it was handed as it was.
func runs(t *testing.T, n api.Node, secrets, publics, want []uint32, place int, e api.Errno) {
	t.Helper()
	ahead, s, p := copied(n), slices.Clone(secrets), slices.Clone(publics)
	got, at, err := eval.Run(n, secrets, publics)
	if !slices.Equal(got, want) || at != place || err != e {
		t.Errorf("Run of %s, %s, %s: %s, %d, %v, not %s, %d, %v", tell(n), tell(s), tell(p), tell(got), at, err, tell(want), place, e)
	}
	if !reflect.DeepEqual(n, ahead) || !slices.Equal(secrets, s) || !slices.Equal(publics, p) {
		t.Errorf("Run changed %s, %s, %s to %s, %s, %s", tell(ahead), tell(s), tell(p), tell(n), tell(secrets), tell(publics))
	}
}

// told looks that Text tells just this of s, and leaves both lists as they were.
func told(t *testing.T, s string, secrets, publics, want []uint32, place int, e api.Errno) {
	t.Helper()
	a, p := slices.Clone(secrets), slices.Clone(publics)
	got, at, err := eval.Text(s, secrets, publics)
	if !slices.Equal(got, want) || at != place || err != e {
		t.Errorf("Text of %.300q, %s, %s: %s, %d, %v, not %s, %d, %v", s, tell(a), tell(p), tell(got), at, err, tell(want), place, e)
	}
	if !slices.Equal(secrets, a) || !slices.Equal(publics, p) {
		t.Errorf("Text of %.300q changed %s, %s to %s, %s", s, tell(a), tell(p), tell(secrets), tell(publics))
	}
}

// comes looks that just these words come of s, by its text and by its tree.
func comes(t *testing.T, s string, secrets, publics []uint32, want ...uint32) {
	t.Helper()
	told(t, s, secrets, publics, want, 0, api.OK)
	runs(t, tree(t, s), secrets, publics, want, 0, api.OK)
}

// mark stands in texts ahead of what is wrong first.
const mark = "@"

// wrong looks that s, without its mark, is wrong first where that stands, by that error, whatever words there are.
func wrong(t *testing.T, e api.Errno, s string) {
	t.Helper()
	ahead, behind, is := strings.Cut(s, mark)
	if !is {
		t.Fatalf("no mark in %q", s)
	}
	s = ahead + behind
	for _, l := range [][]uint32{nil, {1}, {7, 8, 9}} {
		told(t, s, l, l, nil, len(ahead), e)
		runs(t, tree(t, s), l, l, nil, len(ahead), e)
	}
}

// The document's examples.
func TestExamples(t *testing.T) {
	comes(t, "secret a; out o = a + 1;", words(1<<32-1), nil, 0)
	wrong(t, api.ErrFlow, "secret a; out o = 1 << @a;")
	wrong(t, api.ErrType, "x = @a;")
	comes(t, "secret a, b; out o = a & b;", words(12, 10), nil, 8)
}

// P14.1: the outputs' words, in order, shown ones among them.
func TestOutputs(t *testing.T) {
	comes(t, "", nil, nil)
	comes(t, "// nothing\n", words(1), words(2))
	comes(t, "secret a; public p; x = a + p; fn f(x) = x; for i in 0 .. 3 { x = f(i); }", words(1), words(2))
	comes(t, "out o = 7;", nil, nil, 7)
	comes(t, "show o = 7;", nil, nil, 7)
	comes(t, "secret a; public p; out z = a; out y = p; show x = p; out w = ~a; show v = 1; out u = 0; out a = 3; out p = a;", words(5), words(6), 5, 6, 6, 1<<32-6, 1, 0, 3, 5)
	comes(t, "x = 1; out x = x + 1; out y = x; x = 9; show z = x; out w = x;", nil, nil, 1+1, 1, 9, 9)
	var s strings.Builder
	var want []uint32
	s.WriteString("secret a;public p;")
	for k := range uint32(300) {
		word, value, comes := "out", "p", uint32(1000)
		switch {
		case k*k%7 == 2:
			word = "show"
		case k*k%5 == 1:
			value, comes = "a", 2000
		}
		fmt.Fprintf(&s, "%s o%d=%s+%d;", word, 7*k%300, value, k)
		want = append(want, comes+k)
	}
	comes(t, s.String(), words(2000), words(1000), want...)
}

// P14.1: the i-th input of a sort is the i-th word of that sort, 0 if there are fewer.
func TestInputs(t *testing.T) {
	const four = "secret a, b, c, d; out o = a; out p = b; out q = c; out r = d;"
	for _, s := range []string{
		four, strings.ReplaceAll(four, ",", "; secret "), "secret a; secret b, c; out o = a; out p = b; secret d; out q = c; out r = d;", "out z = 4; secret a, b; secret c, d; out o = a; out p = b; out q = c; out r = d;",
		"secret b; secret a; secret d, c; out o = b; out p = a; out q = d; out r = c;",
	} {
		var none []uint32
		if strings.HasPrefix(s, "out z") {
			none = words(4)
		}
		for _, of := range []struct{ given, want []uint32 }{{nil, words(0, 0, 0, 0)}, {words(), words(0, 0, 0, 0)}, {words(7), words(7, 0, 0, 0)}, {words(7, 8, 9), words(7, 8, 9, 0)}, {words(7, 8, 9, 10), words(7, 8, 9, 10)}, {words(7, 8, 9, 10, 11, 12), words(7, 8, 9, 10)}, {words(0, 0, 0, 1<<32-1), words(0, 0, 0, 1<<32-1)}} {
			for _, other := range [][]uint32{nil, {1}, {1, 2, 3, 4, 5, 6}} {
				comes(t, s, of.given, other, append(slices.Clone(none), of.want...)...)
				comes(t, strings.ReplaceAll(s, "secret", "public"), other, of.given, append(slices.Clone(none), of.want...)...)
			}
		}
	}
	// Both sorts, in any order of their statements.
	for _, s := range []string{
		"secret a, b; public p, q; OUTS", "public p, q; secret a, b; OUTS", "secret a; public p; secret b; public q; OUTS", "public p; secret a, b; public q; OUTS", "secret a; t = a; public p, q; for i in 0 .. 2 { t = p; } secret b; OUTS", "public p; fn f(x) = x; secret a; out o0 = f(p); out o1 = f(a); secret b; public q; out o2 = b; out o3 = q;",
	} {
		s = strings.ReplaceAll(s, "OUTS", "out o0 = p; out o1 = a; out o2 = b; out o3 = q;")
		comes(t, s, words(1, 2), words(3, 4), 3, 1, 2, 4)
		comes(t, s, words(1), words(3), 3, 1, 0, 0)
		comes(t, s, nil, words(3, 4, 5, 6), 3, 0, 0, 4)
		comes(t, s, words(1, 2, 7, 8), nil, 0, 1, 2, 0)
		comes(t, s, nil, nil, 0, 0, 0, 0)
	}
	var l, want []uint32
	var s strings.Builder
	for k := range uint32(100) {
		fmt.Fprintf(&s, "secret s%d;public p%d;out o%d=s%d-p%d;", k, k, k, k, k)
		l = append(l, k*k+7)
		want = append(want, k*k-3*k+7)
	}
	var publics []uint32
	for k := range uint32(100) {
		publics = append(publics, 3*k)
	}
	comes(t, s.String(), l, publics, want...)
	// Inputs that are never used take words, too.
	comes(t, "secret a, b; secret c; public p; public q; out o = c; out r = q;", words(1, 2, 3), words(4, 5), 3, 5)
}

// P14.1, P14.2: a variable is as it was set last.
func TestVariables(t *testing.T) {
	comes(t, "secret a; x = a; out o = x; x = 1; out p = x; x = x + a; out q = x; y = x; x = 7; out r = y; out s = x; x = y; out u = x;", words(40), nil, 40, 1, 41, 41, 7, 41)
	comes(t, "x = 3; y = 4; z = x; x = y; y = z; out o = x; out p = y;", nil, nil, 4, 3)
	comes(t, "x = 1; x = x + x; x = x + x; x = x + x; x = x <<< 30; out o = x;", nil, nil, 2)
	comes(t, "x = 1; y = x; x = 2; out o = y; out p = x; y = y - x; out q = y;", nil, nil, 1, 2, 1<<32-1)
}

// P14.2: a function's word is what its expression comes to, in which its parameters are as the parts.
func TestFunctions(t *testing.T) {
	comes(t, "secret a; public p; fn f(x) = x + 1; out o = f(a); out q = f(p); out r = f(f(f(a))); out s = f(1) - f(2);", words(10), words(20), 11, 21, 13, 1<<32-1)
	comes(t, "fn f(x, y, z) = x - y - z; out o = f(9, 3, 2); out p = f(2, 3, 9); fn g(z, y, x) = f(x, y, z); out q = g(9, 3, 2); out r = g(f(9, 3, 2), g(1, 2, 3), f(1, g(0, 0, 1), 7));", nil, nil, 4, 1<<32-10, 1<<32-10, 1<<32-11)
	// Parameters that have names of inputs, variables and loops: each is as its own part, and the names are as they were behind it.
	comes(t, "secret x; public y; fn f(y, x) = y - x; out o = f(x, y); out p = f(y, x); out q = f(f(x, 1), f(1, x)); out r = x; out s = y;", words(30), words(7), 23, 1<<32-23, 58, 30, 7)
	comes(t, "t = 5; fn f(u) = u + u; u = 3; t = f(t) + f(u); out o = t; out p = u; fn g(u, v) = f(v) - f(u); out q = g(t, u); out r = g(u, t); v = g(1, 2); out s = v; out w = g(v, v);", nil, nil, 16, 3, 1<<32-26, 26, 2, 0)
	comes(t, "fn f(i) = i + 1; x = 0; for i in 0 .. 4 { x = x + f(10) + i; } out o = x; for i in 0 .. 3 { x = f(i); } out p = x;", nil, nil, 50, 3)
	comes(t, "fn a(x) = x ^ 1; fn b(x) = a(x) + a(a(x)); fn c(x, y) = sel(x, a(y), b(y)); out o = b(6); out p = c(~0, 6); out q = c(0, 6); out r = c(1, 6);", nil, nil, 13, 7, 13, 13)
	comes(t, "fn k(x) = 7; fn l(x) = 1 << 4 >> 1; secret a; out o = k(a); out p = k(k(1)) + l(a);", words(1), nil, 7, 15)
	comes(t, "fn f(x, y) = x; fn g(x, y) = y; out o = f(1, 2); out p = g(1, 2); out q = f(g(1, 2), 3); out r = g(f(1, 2), g(3, 4));", nil, nil, 1, 2, 2, 4)
	// One in another, as deep as may be: f of k is x shifted to the left by k, and 1, less 0, 1 .. k - 1.
	s := "fn f0(x) = x + 1;"
	for k := range 61 {
		s += fmt.Sprintf("fn f%d(x) = f%d(x + x) - %d;", k+1, k, k)
	}
	comes(t, s+"out o = f60(1); out p = f10(3); out q = f31(1);", nil, nil, 1<<32+1-1770, 3<<10+1-45, 1<<31+1-465)
	wrong(t, api.ErrResource, strings.Replace(s, "f0(x + x)", "@f0(x + x)", 1)+"out o = f61(1);")
}

// P14.1: loops are gone through round by round.
func TestLoops(t *testing.T) {
	for bounds, sum := range map[string]uint32{
		"0 .. 0": 0, "0 .. 1": 1000, "1 .. 0": 0, "3 .. 8": 5025, "8 .. 3": 0, "-1 .. 1": 0, "-3 .. -1": 2000 - 3 - 2, "-1 .. -1": 0, "4294967294 .. 4294967295": 998, "0x7ffffffe .. 0x80000001": 3000 + 0x7ffffffe*3 + 3 - 1<<32, "~5 .. ~1": 4000 - 6 - 5 - 4 - 3,
		"1 << 2 .. 1 << 3": 4022, "1 << 32 .. 2": 2001, "(1 + 2) & 6 .. (9 ^ 4 | 2) - 8": 5000 + 2 + 3 + 4 + 5 + 6, "1 <<< 33 .. 80 >> 4": 3009, "0 .. 998": 998*1000 + 998*997/2, "0 - 5 .. ~0": 4000 - 5 - 4 - 3 - 2,
	} {
		comes(t, "x = 0; for i in "+bounds+" { x = x + i + 1000; } out o = x;", nil, nil, sum)
		comes(t, "x = 0; for i in 3 .. 5 { for j in i + 7 .. 11 { } for k in "+bounds+" { x = x + k + 1000; } } out o = x;", nil, nil, 2*sum)
	}
	comes(t, "for i in 0 .. 3 { x = i; } out o = 1;", nil, nil, 1)
	comes(t, "x = 0; for i in 0 .. 2000 { x = x + i; } out o = x;", nil, nil, 1999000)
	// What a loop sets is read in its next round, and behind it.
	comes(t, "x = 1; y = 1; for i in 0 .. 10 { z = x + y; x = y; y = z; } out o = x; out p = y;", nil, nil, 89, 144)
	comes(t, "secret a; x = 0; y = 0; z = 0; for i in 0 .. 2 { z = y; y = x; x = a; } out o = z; out p = y; out q = x;", words(6), nil, 0, 6, 6)
	comes(t, "x = 5; for i in 9 .. 3 { x = 1; } out o = x; for i in 3 .. 9 { x = x; } out p = x; for i in 0 .. 5 { x = i; } out q = x; for i in 0 .. 0 { x = 9; } out r = x;", nil, nil, 5, 5, 4, 4)
	// Loops in loops, their ends made of outer loops' names.
	comes(t, "n = 0; s = 0; for i in 0 .. 5 { for j in 0 .. i { n = n + 1; s = s ^ (j << i); } } out o = n; out p = s;", nil, nil, 10, uint32(1<<2^1<<3^2<<3^1<<4^2<<4^3<<4))
	comes(t, "n = 0; for i in 1 .. 4 { for j in i + 1 .. 6 - i { n = n + (i << 4) - j; } } out o = n;", nil, nil, 3*16-2-3-4+32-3)
}

// P14.1: loops in loops.
func TestLoopsInLoops(t *testing.T) {
	s := "n = 0; s = 7; for i in 1 .. 4 { for j in i .. (i << 1) + 1 { t = n; for k in j - i .. i + j - 1 { n = n + 1; s = (s <<< k) + (i << j) - k; } t = n - t; s = s ^ t; } }  out o = n; out p = s;"
	n, sum := uint32(0), uint32(7)
	for i := uint32(1); i < 4; i++ {
		for j := i; j < i<<1+1; j++ {
			t := n
			for k := j - i; k < i+j-1; k++ {
				n++
				sum = (sum<<k | sum>>(32-k)) + i<<j - k
			}
			sum ^= n - t
		}
	}
	comes(t, s, nil, nil, n, sum)
	comes(t, "x = 0; for i in 0 .. 10 { for j in 0 .. 10 { for k in 0 .. 10 { x = x + (i + j + k); } } } out o = x;", nil, nil, 13500)
	// A name of a loop is what it is in its own loop alone.
	comes(t, "x = 0; for i in 0 .. 2 { x = x + i; } for i in 5 .. 7 { x = x + i; } i = 100; out o = x + i; for j in 0 .. 3 { i = i + j; } out p = i; fn f(j) = j << 1; for j in 0 .. 2 { i = f(i) + j; } out q = i;", nil, nil, 112, 103, 413)
	comes(t, "x = 0; for i in 0 .. 3 { for j in i .. 3 { for k in j .. 3 { x = x + (1 << i + j + k); } for k in 0 .. j { x = x - (k >> 0); } } for j in 0 .. 1 << i { x = x + 1; } } out o = x;", nil, nil, 1+2+4+4+8+16+8+16+32+64-1-1-1+1+2+4)
}

// P14.1: what isn't run does nothing.
func TestNotRun(t *testing.T) {
	comes(t, "secret a; fn f(x) = 1 << x; x = 3; for i in 1 .. 1 { x = f(a); for j in 0 .. a << a { x = 0; } } out o = x; fn g(x) = f(x) << x; out p = a;", words(8), nil, 3, 8)
}

// P14.1: of a program that is wrong, flow's error, its place, and no outputs.
func TestWrong(t *testing.T) {
	for s, e := range map[string]api.Errno{
		"public p; out o = 1 << @p;": 120, "secret a; out q = a; @show o = a;": 130, "secret a; for i in 0 .. @a { x = 1; }": 130, "@for i in 0 .. 3000 { x = 1; }": 150, "secret a; fn f(x) = 1 << @x; out o = f(a);": 130, "fn f(x) = 1 << @x; out o = f(1);": 120, "x = 1 << @sel(1, 2, 3);": 120, "secret a; x = 1; for i in 0 .. 2 { y = 1 << @x; x = a; }": 120,
		"out o = 1; x = @y;": 120, "out o = 1; @out o = 2;": 120, "secret a; @secret a;": 120, "secret a; for i in 0 .. 2 { t = a; } out o = @t;": 120, "fn f(x) = @y; out o = 1;": 120, "out o = @f(1);": 120, "out o = @sel(1, 2);": 120, "for i in 0 .. 2 { x = i; } out o = @i;": 120, "secret a; out o = a; @a = 1;": 120, "out o = 1; @fn sel(x) = x;": 120, "secret a; x = 1 << a; y = @b;": 120,
		"out p = 5; for i in 0 .. 2 { for j in 0 .. 999 { } } @for k in 0 .. 3 { }": 150, "out o = 1; for i in 0 .. 3 { @for j in 0 .. 700 { x = i; } }": 150,
	} {
		wrong(t, e, s)
	}
	s := "fn f0(x) = x;"
	for k := range 50 {
		s += fmt.Sprintf("fn f%d(x) = f%d(x) + f%d(x);", k+1, k, k)
	}
	_, place, err := flow.Check(tree(t, s+"out o = f50(1);"))
	told(t, s+"out o = f50(1);", nil, nil, nil, place, err)
	comes(t, s+"out o = f11(3);", nil, nil, 3<<11)
}

// P14.1: texts that parse refuses, with its error and place.
func TestNoProgram(t *testing.T) {
	for s, e := range map[string]api.Errno{
		"out o = 1@": 100, "x = @;": 100, "out o = 1; x = a @? b;": 100, "for i in 0 .. 1 { @out o = i; }": 100, "out o = 1; @}": 100, "out o = @0x;": 100, "out o = 1; x = @4294967296;": 150, "out o = " + strings.Repeat("(", 61) + "@1": 150, "@out o = 1;" + strings.Repeat(" ", 20000): 150, strings.Repeat("x=1;", 1000) + "@": 150, "fn f(@) = 1; out o = f();": 100,
	} {
		ahead, behind, _ := strings.Cut(s, mark)
		for _, l := range [][]uint32{nil, {1, 2, 3}} {
			told(t, ahead+behind, l, l, nil, len(ahead), e)
		}
	}
}

// P14.4: outputs that are no secrets are the same whatever the secrets are, and hang on the publics.
func TestSharesOfNoMatter(t *testing.T) {
	const s = "secret a, b; public p, q; fn f(x, y) = x ^ 1; t = f(p, a); u = a; for i in 0 .. 3 { u = u + b; } u = p; out o = t; out r = sel(p, q, a); show s = u; out v = sel(p, q, q) - p; out w = f(a, p) & b;"
	labels, _, _ := flow.Check(tree(t, s))
	differ := make([]bool, len(labels))
	for _, publics := range [][]uint32{nil, {5, 6}, {1<<32 - 1, 3}, {0xf0f0, 9, 9}} {
		ahead, _, _ := eval.Text(s, nil, publics)
		for _, secrets := range [][]uint32{{1}, {1, 2}, {0xffff, 0xffff0000, 7}, {1 << 31, 1<<32 - 1}} {
			got, _, err := eval.Text(s, secrets, publics)
			if err != api.OK || len(got) != len(labels) {
				t.Fatalf("Text(%q): %v, %v", s, got, err)
			}
			for k, label := range labels {
				if got[k] != ahead[k] && !label.Secret {
					t.Errorf("%s of %v, %v: %d, not %d", label.Name, secrets, publics, got[k], ahead[k])
				}
				differ[k] = differ[k] || got[k] != ahead[k]
			}
		}
	}
	if !slices.Equal(differ, []bool{false, true, false, false, true}) {
		t.Errorf("hang on secrets: %v", differ)
	}
	comes(t, s, words(1, 2), words(12, 10), 13, 12&10|1&^12, 12, 1<<32-2, 0)
}

// What came of one program is of no matter to the next one.
func TestFromArgumentsAlone(t *testing.T) {
	for range 2 {
		comes(t, "secret a; fn f(x) = x + 1; b = a; out o = f(b); for i in 0 .. 1500 { b = b + i; } show p = 3;", words(7), nil, 8, 3)
		comes(t, "public a; fn f(x) = x + 2; b = a; show o = f(b); for i in 0 .. 1500 { }", words(7), words(1), 3)
		comes(t, "secret a, b; out o = b;", words(7), nil, 0)
		wrong(t, api.ErrType, "x = @b;")
		comes(t, "b = 0; out o = b;", words(7), nil, 0)
	}
}
