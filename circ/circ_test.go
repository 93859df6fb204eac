package circ_test

import (
	"fmt"
	"reflect"
	"slices"
	"strconv"
	"strings"
	"testing"

	"bauta/api"
	"bauta/circ"
	"bauta/eval"
	"bauta/flow"
	"bauta/parse"
)

// tree is what parse reads of s, which is a program.
func tree(t *testing.T, s string) api.Node {
	t.Helper()
	n, at, err := parse.Parse(s)
	if err != api.OK {
		t.Fatalf("Parse(%.300q): %d, %v", s, at, err)
	}
	return n
}

// copied is n in memory of its own.
func copied(n api.Node) api.Node {
	n.P = slices.Clone(n.P)
	n.L = slices.Clone(n.L)
	for k := range n.L {
		n.L[k] = copied(n.L[k])
	}
	return n
}

// tell is what a test was about as a text, as far as it is of use.
func tell(x any) string {
	return fmt.Sprintf("%.900s", fmt.Sprintf("%+v", x))
}

// words are a list of them.
func words(l ...uint32) []uint32 { return l }

// number is the number that s begins with, and what is behind it.
func number(t *testing.T, s string) (int, string) {
	t.Helper()
	end := len(s) - len(strings.TrimLeft(s, "0123456789"))
	n, err := strconv.Atoi(s[:end])
	if err != nil {
		t.Fatalf("no number: %q", s)
	}
	return n, s[end:]
}

// circuit reads a circuit as the tests here write it: s0 and p0 are inputs, #7 is a number, ~0 the gate 0 turned, 0&1 what is made of the gates 0 and 1, 0<<3 the gate 0 shifted by 3, each with a * behind it, if it is secret; o=4: the output o is the gate 4. It has as many inputs as gates of them.
func circuit(t *testing.T, s string) api.Circuit {
	t.Helper()
	c := api.Circuit{}
	for _, one := range strings.Fields(s) {
		if o, place, is := strings.Cut(one, "="); is {
			k, _ := number(t, place)
			c.Outs = append(c.Outs, api.Out{Name: o, At: k})
			continue
		}
		g := api.Gate{Secret: strings.HasSuffix(one, "*")}
		one = strings.TrimSuffix(one, "*")
		n := 0
		switch one[0] {
		case '#':
			g.K = 0
			n, _ = number(t, one[1:])
		case 's':
			g.K = 1
			n, _ = number(t, one[1:])
			c.Secrets++
		case 'p':
			g.K = 2
			n, _ = number(t, one[1:])
			c.Publics++
		case '~':
			g.K = 5
			g.A, _ = number(t, one[1:])
		default:
			sign, behind := "", 0
			g.A, sign = number(t, one)
			sign = strings.TrimRight(sign, "0123456789")
			behind, _ = number(t, one[strings.Index(one, sign)+len(sign):])
			g.K = map[string]int{"&": 3, "^": 4, "<<": 6, ">>": 7, "<<<": 8, "|": 9, "+": 10, "-": 11}[sign]
			if g.K < 6 || g.K > 8 {
				g.B = behind
			} else {
				n = behind
			}
		}
		g.N = uint32(n)
		c.Gates = append(c.Gates, g)
	}
	return c
}

// alike tells whether two circuits are the same. Nil and empty lists are.
func alike(a, b api.Circuit) bool {
	return slices.Equal(a.Gates, b.Gates) && slices.Equal(a.Outs, b.Outs) && a.Secrets == b.Secrets && a.Publics == b.Publics
}

// told looks that Text tells just this of s.
func told(t *testing.T, s string, want api.Circuit, place int, e api.Errno) {
	t.Helper()
	c, at, err := circ.Text(s)
	if !alike(c, want) || at != place || err != e {
		t.Errorf("Text of %.300q: %s, %d, %v, not %s, %d, %v", s, tell(c), at, err, tell(want), place, e)
	}
}

// built looks that Build tells just this of n, leaves it as it was, and that what it tells can be and is as right as eval.
func built(t *testing.T, n api.Node, want api.Circuit, place int, e api.Errno) {
	t.Helper()
	ahead := copied(n)
	c, at, err := circ.Build(n)
	if !alike(c, want) || at != place || err != e {
		t.Errorf("Build of %s: %s, %d, %v, not %s, %d, %v", tell(n), tell(c), at, err, tell(want), place, e)
	}
	if !reflect.DeepEqual(n, ahead) {
		t.Errorf("Build changed %s to %s", tell(ahead), tell(n))
	}
	if err == api.OK {
		right(t, n, c)
	}
}

// right looks that c can be, and that its outputs are those of n, of some words.
func right(t *testing.T, n api.Node, c api.Circuit) {
	t.Helper()
	if !circ.Can(c) {
		t.Errorf("%s of %s can't be", tell(c), tell(n))
	}
	for _, l := range [][]uint32{nil, {1<<32 - 1, 1<<32 - 1}, {0xdeadbeef, 0x12345678, 5, 7, 1 << 31, 0, 99}} {
		for _, m := range [][]uint32{nil, {1}, {0x80000001, 0xffff0000, 3, 4, 1<<32 - 1, 6, 7}} {
			same(t, n, c, l, m)
		}
	}
}

// same looks that the outputs of c are those of n, of these words.
func same(t *testing.T, n api.Node, c api.Circuit, secrets, publics []uint32) {
	t.Helper()
	want, _, err := eval.Run(n, secrets, publics)
	if got := circ.Outs(c, secrets, publics); err != api.OK || !slices.Equal(got, want) {
		t.Errorf("outputs of %s, %s, %s: %s, not %s, %v", tell(c), tell(secrets), tell(publics), tell(got), tell(want), err)
	}
}

// comes looks that just that circuit, as the tests write it, comes of s, by its text and by its tree.
func comes(t *testing.T, s, want string) {
	t.Helper()
	told(t, s, circuit(t, want), 0, api.OK)
	built(t, tree(t, s), circuit(t, want), 0, api.OK)
}

// mark stands in texts ahead of what is wrong first.
const mark = "@"

// wrong looks that s, without its mark, is wrong first where that stands, by that error.
func wrong(t *testing.T, e api.Errno, s string) {
	t.Helper()
	ahead, behind, is := strings.Cut(s, mark)
	if !is {
		t.Fatalf("no mark in %q", s)
	}
	told(t, ahead+behind, api.Circuit{}, len(ahead), e)
	built(t, tree(t, ahead+behind), api.Circuit{}, len(ahead), e)
}

// The document's examples.
func TestExamples(t *testing.T) {
	comes(t, "secret a; out o = ~a;", "s0* ~0* o=1")
	comes(t, "secret a; out o = a + 1;", "s0* #1 0+1* o=2")
	comes(t, "secret a, b; out o = a & b;", "s0* s1* 0&1* o=2")
	comes(t, "secret a, b, c; out o = a ^ b & ~c;", "s0* s1* s2* ~2* 1&3* 0^4* o=5")
	comes(t, "public a; out o = a & ~0; out p = ~~a;", "p0 #0 ~1 0&2 ~0 ~4 o=3 p=5")
	wrong(t, api.ErrFlow, "secret a; out o = 1 << @a;")
	wrong(t, api.ErrType, "public p; out o = 1 << @p;")
}

// P15.3: a gate for each input, where it is declared.
func TestInputs(t *testing.T) {
	comes(t, "", "")
	comes(t, " // nothing\n", "")
	comes(t, "secret a;", "s0*")
	comes(t, "public a;", "p0")
	comes(t, "secret a, b, c; public p, q;", "s0* s1* s2* p0 p1")
	comes(t, "public q, p; secret c, b, a; out o = a; out r = q;", "p0 p1 s0* s1* s2* o=4 r=0")
	comes(t, "secret a; public p; secret b; public q; secret c, d; public r; out o = d; out x = r; out y = a;", "s0* p0 s1* p1 s2* s3* p2 o=5 x=6 y=0")
	comes(t, "out z = 7; secret a; x = a + 2; public p; y = p | x; secret b; out o = b; out r = p; out s = y; out u = x;", "#7 s0* #2 1+2* p0 4|3* s1* z=0 o=6 r=4 s=5 u=3")
	comes(t, "for i in 0 .. 2 { x = i; } secret a; fn f(x) = x; public p; out o = f(a); out q = f(p);", "#0 #1 s0* p0 o=2 q=3")
	wrong(t, api.ErrType, "secret a; @secret a;")
	wrong(t, api.ErrType, "secret a; @public a;")
	wrong(t, api.ErrType, "public a; @secret b, a;")
	wrong(t, api.ErrType, "@secret a, b, a;")
}

// P15.3: numbers, each a gate where it stands.
func TestNumbers(t *testing.T) {
	comes(t, "out o = 0;", "#0 o=0")
	comes(t, "out o = 4294967295;", "#4294967295 o=0")
	comes(t, "out o = 0x80000000; out p = 7; out q = 7;", "#2147483648 #7 #7 o=0 p=1 q=2")
	comes(t, "x = 5; y = 5; out o = x + y;", "#5 #5 0+1 o=2")
	comes(t, "secret a; out o = 3 ^ (a ^ 3);", "s0* #3 #3 0^2* 1^3* o=4")
}

// P15.3: signs of one and of two, the parts' gates ahead.
func TestSigns(t *testing.T) {
	comes(t, "secret a; public p; out o = ~a; out q = ~p;", "s0* p0 ~0* ~1 o=2 q=3")
	comes(t, "secret a; public p; out o = -a; out q = -p;", "s0* p0 #0 2-0* #0 4-1 o=3 q=5")
	comes(t, "out o = -5; out p = ~5;", "#5 #0 1-0 #5 ~3 o=2 p=4")
	comes(t, "secret a; out o = -~-(a + 1);", "s0* #1 0+1* #0 3-2* ~4* #0 6-5* o=7")
	for _, sign := range []string{"+", "-", "&", "|", "^"} {
		comes(t, "secret a; public p; out o = a "+sign+" p; out q = p "+sign+" a; out r = p "+sign+" p; out s = a "+sign+" a;", fmt.Sprintf("s0* p0 0%s1* 1%s0* 1%s1 0%s0* o=2 q=3 r=4 s=5", sign, sign, sign, sign))
		comes(t, "secret a; out o = a "+sign+" 3; out q = 3 "+sign+" a; out r = 4 "+sign+" 3;", fmt.Sprintf("s0* #3 0%s1* #3 3%s0* #4 #3 5%s6 o=2 q=4 r=7", sign, sign, sign))
		comes(t, "secret a, b; out o = (1 "+sign+" ~a) "+sign+" (~b "+sign+" 2);", fmt.Sprintf("s0* s1* #1 ~0* 2%s3* ~1* #2 5%s6* 4%s7* o=8", sign, sign, sign))
	}
	comes(t, "public a, b, c, d; out o = a - b - c + d;", "p0 p1 p2 p3 0-1 4-2 5+3 o=6")
	comes(t, "public a, b, c, d; out o = a - (b - (c + d));", "p0 p1 p2 p3 2+3 1-4 0-5 o=6")
	comes(t, "public a; secret b; out o = a | b ^ a & b << 1 + 1;", "p0 s0* 1<<2* 0&2* 1^3* 0|4* o=5")
}

// P15.3: shifts, of amounts that have no gates.
func TestShifts(t *testing.T) {
	for by, n := range map[string]uint32{
		"0": 0, "1": 1, "31": 31, "32": 32, "33": 33, "63": 63, "64": 64, "0x80000000": 1 << 31, "4294967295": 1<<32 - 1, "4294967294": 1<<32 - 2, "-1": 1<<32 - 1, "-32": 1<<32 - 32, "~0": 1<<32 - 1, "~30": 1<<32 - 31, "(1 - 1)": 0, "1 + 30": 31, "(1 << 5)": 32, "(66 >> 1)": 33, "(1 <<< 31)": 1 << 31, "(7 & 3 | 8 ^ 1)": 11, "-(-2)": 2, "(0xffffffff + 2)": 1, "(1 << 32)": 0, "(3 <<< 32)": 3,
	} {
		shl, shr := fmt.Sprintf("0<<%d* 1<<%d", n, n), fmt.Sprintf("0>>%d* 1>>%d", n, n)
		if n >= 32 {
			shl, shr = "#0 #0", "#0 #0"
		}
		rot := fmt.Sprintf("0<<<%d* 1<<<%d", n%32, n%32)
		for sign, want := range map[string]string{"<<": shl, ">>": shr, "<<<": rot} {
			comes(t, "secret a; public p; out o = a "+sign+" "+by+"; out q = p "+sign+" "+by+";", "s0* p0 "+want+" o=2 q=3")
		}
	}
	// What is shifted has its gates, even where all bits go out.
	comes(t, "secret a; out o = ~a << 32; out p = (a + 1) >> 33; out q = -a <<< 33;", "s0* ~0* #0 #1 0+3* #0 #0 6-0* 7<<<1* o=2 p=5 q=8")
	comes(t, "out o = 1 << 2; out p = 5 >> 2 >> 1; out q = 5 << 40 << 1;", "#1 0<<2 #5 2>>2 3>>1 #5 #0 6<<1 o=1 p=4 q=7")
	// Loops' names, alone and in constants.
	comes(t, "secret a; for i in 0 .. 2 { x = a << i; y = a >> 31 + i; z = a <<< i + 31; }", "s0* 0<<0* 0>>31* 0<<<31* 0<<1* #0 0<<<0*")
	comes(t, "public a; x = a; for i in -2 .. -1 { x = x << i; y = a <<< i; } for j in 4294967295 .. 4294967295 { } for j in 30 .. 33 { x = x >> j + 1 - 1; } out o = x;", "p0 #0 0<<<30 1>>30 3>>31 #0 o=5")
	comes(t, "secret a; for i in 1 .. 3 { for j in i .. 3 { x = a << (i << j) - 2; } }", "s0* 0<<0* 0<<2* 0<<6*")
}

// P15.3: sel is three gates, behind those of its parts.
func TestSel(t *testing.T) {
	comes(t, "secret m, a, b; out o = sel(m, a, b);", "s0* s1* s2* 1^2* 0&3* 2^4* o=5")
	comes(t, "public m, a, b; out o = sel(m, a, b);", "p0 p1 p2 1^2 0&3 2^4 o=5")
	comes(t, "secret m; public a, b; out o = sel(m, a, b);", "s0* p0 p1 1^2 0&3* 2^4* o=5")
	comes(t, "public m, b; secret a; out o = sel(m, a, b);", "p0 p1 s0* 2^1* 0&3* 1^4* o=5")
	comes(t, "public m, a; secret b; out o = sel(m, a, b);", "p0 p1 s0* 1^2* 0&3* 2^4* o=5")
	comes(t, "secret a; out o = sel(1, ~a, 3);", "s0* #1 ~0* #3 2^3* 1&4* 3^5* o=6")
	comes(t, "secret a; out o = sel(a, a, a);", "s0* 0^0* 0&1* 0^2* o=3")
	comes(t, "public a; out o = sel(sel(a, 1, 2), a, -a) << 1;", "p0 #1 #2 1^2 0&3 2^4 #0 6-0 0^7 5&8 7^9 10<<1 o=11")
}

// P15.3: a function's parameters are the gates of the parts.
func TestFunctions(t *testing.T) {
	comes(t, "fn f(x) = x + 1;", "")
	comes(t, "secret a; fn f(x) = x + 1; out o = f(a); out p = f(f(a));", "s0* #1 0+1* #1 0+3* #1 4+5* o=2 p=6")
	comes(t, "public p; fn f(x) = x; out o = f(p); out q = f(7); out r = f(f(f(p)));", "p0 #7 o=0 q=1 r=0")
	// A parameter that is used twice has its gates once, one that isn't used has them, too.
	comes(t, "secret a; fn f(x) = x & x ^ x; out o = f(~a);", "s0* ~0* 1&1* 2^1* o=3")
	comes(t, "secret a; fn f(x, y) = x; fn g(x, y) = 5; out o = f(1, ~a); out p = g(a, -a);", "s0* #1 ~0* #0 3-0* #5 o=1 p=5")
	comes(t, "secret a; public p; fn f(x, y, z) = z - x; out o = f(a + p, 3, ~p); out q = f(p, a, 2);", "s0* p0 0+1* #3 ~1 4-2* #2 6-1 o=5 q=7")
	// Its names are its own.
	comes(t, "secret a; public b; fn f(b, a) = a - b; x = f(a, b); fn g(x, i) = x ^ i << 1; y = x; for i in 3 .. 5 { y = g(i, x); } out o = y;", "s0* p0 1-0* #3 2<<1* 3^4* #4 2<<1* 6^7* o=8")
	comes(t, "fn f(i) = i + i; for i in 1 .. 3 { x = f(9); y = f(i); z = f(i + i); }", "#9 0+0 #1 2+2 #1 #1 4+5 6+6 #9 8+8 #2 10+10 #2 #2 12+13 14+14")
	// Functions that call functions, their parts ahead of their own gates.
	comes(t, "secret a; fn f(x) = ~x; fn g(x, y) = f(y) & f(x); fn h(x) = g(f(x), 3) + x; out o = h(a);", "s0* ~0* #3 ~2 ~1* 3&4* 5+0* o=6")
	comes(t, "public p; fn f(x, m) = sel(m, x, 1); fn g(m) = f(m << 1, m) >> 32; out o = g(p); out q = -g(-p);", "p0 0<<1 #1 1^2 0&3 2^4 #0 #0 7-0 8<<1 #1 9^10 8&11 10^12 #0 #0 15-14 o=6 q=16")
	comes(t, "fn k(x) = 1 << 4; out o = k(2) + k(3);", "#2 #1 1<<4 #3 #1 4<<4 2+5 o=6")
}

// P15.3: a variable is the gate that it was set to last.
func TestVariables(t *testing.T) {
	comes(t, "secret a; x = a; y = x; out o = y; out p = x;", "s0* o=0 p=0")
	comes(t, "secret a; x = 1; x = x + a; y = x; x = ~x; x = x; out o = x; out p = y; y = 0; out q = y;", "s0* #1 1+0* ~2* #0 o=3 p=2 q=4")
	comes(t, "x = 1; y = 2; z = x; x = y; y = z; out o = x - y;", "#1 #2 1-0 o=2")
	comes(t, "secret a; x = a; x = 3; out o = x; x = a & x; show p = 7;", "s0* #3 0&1* #7 o=1 p=3")
	comes(t, "x = 7; x = x + x; x = x + x; out o = x;", "#7 0+0 1+1 o=2")
}

// P15.3: loops, round by round, a gate for their names where they stand.
func TestLoops(t *testing.T) {
	comes(t, "for i in 0 .. 3 { }", "")
	comes(t, "for i in 3 .. 3 { x = i; } for j in 4 .. 3 { x = 1; } for k in -1 .. 0 { x = 1; }", "")
	comes(t, "for i in 0 .. 3 { x = 5; }", "#5 #5 #5")
	comes(t, "secret a; x = a; for i in 2 .. 5 { x = x + i; } out o = x;", "s0* #2 0+1* #3 2+3* #4 4+5* o=6")
	comes(t, "x = 0; for i in 0 .. 2 { x = i; } out o = x; for i in 0 .. 0 { x = 9; } out p = x; for i in 7 .. 8 { y = x; x = i - i; } out q = x;", "#0 #0 #1 #7 #7 3-4 o=2 p=2 q=5")
	comes(t, "for i in 1 .. 3 { t = i; u = t; v = u ^ t ^ i; }", "#1 0^0 #1 1^2 #2 4^4 #2 5^6")
	comes(t, "for i in ~1 .. ~0 { x = i; } for i in 0x7fffffff .. 0x80000001 { x = i; }", "#4294967294 #2147483647 #2147483648")
	comes(t, "public p; x = p; for i in 1 .. 3 { for j in i .. i + 2 { x = x ^ j; } x = x & i; } out o = x;", "p0 #1 0^1 #2 2^3 #1 4&5 #2 6^7 #3 8^9 #2 10&11 o=12")
	comes(t, "for i in 0 .. 3 { for j in 0 .. i { for k in j .. i { x = i; y = j; z = k; } } for j in i .. 3 >> i { w = j; } }", "#0 #1 #2 #1 #0 #0 #2 #0 #0 #2 #0 #1 #2 #1 #1")
	// A name that was a loop's is something else behind it, and the other way round.
	comes(t, "for i in 4 .. 5 { t = i; } i = 9; out o = i + i; for t in 6 .. 7 { i = t; } out p = i; t = 3; out q = t;", "#4 #9 1+1 #6 #3 o=2 p=3 q=4")
	comes(t, "for i in 0 .. 1 { x = i; } fn i(x) = x; for x in 1 .. 3 { y = i(x); } x = i(8); out o = x;", "#0 #1 #2 #8 o=3")
}

// P15.3: each output's name and gate, shown or not.
func TestOutputs(t *testing.T) {
	comes(t, "secret a; public p; out z = a; show y = p; out x = p; out w = a; show v = 3; out a = ~a; out p = a;", "s0* p0 #3 ~0* z=0 y=1 x=1 w=0 v=2 a=3 p=0")
	comes(t, "x = 1; out x = x; out y = x; show sel = x + x; x = 2; out f = x;", "#1 0+0 #2 x=0 y=0 sel=1 f=2")
	comes(t, "secret a; public p; show o = p; out q = a & 0; out r = a << 32; show s = p >> 32;", "s0* p0 #0 0&2* #0 #0 o=1 q=3 r=4 s=5")
	s, want, outs := "secret a, b;", "s0* s1*", ""
	for k := range 300 {
		s += fmt.Sprintf("out o%d = a ^ b;", 7*k%300)
		want += " 0^1*"
		outs += fmt.Sprintf(" o%d=%d", 7*k%300, k+2)
	}
	comes(t, s, want+outs)
}

// P15.3: programs that are wrong: flow's error, its place, no circuit.
func TestWrong(t *testing.T) {
	for s, e := range map[string]api.Errno{
		"public p; out o = 1 << @p;": 120, "secret a; out q = a; @show o = a;": 130, "secret a; for i in 0 .. @a { x = 1; }": 130, "@for i in 0 .. 3000 { x = 1; }": 150, "secret a; fn f(x) = 1 << @x; out o = f(a);": 130, "fn f(x) = 1 << @x; out o = f(1);": 120, "x = 1 << @sel(1, 2, 3);": 120, "secret a; x = 1; for i in 0 .. 2 { y = 1 << @x; x = a; }": 120,
		"out o = 1; x = @y;": 120, "out o = 1; @out o = 2;": 120, "secret a; for i in 0 .. 2 { t = a; } out o = @t;": 120, "fn f(x) = @y; out o = 1;": 120, "out o = @f(1);": 120, "out o = @sel(1, 2);": 120, "for i in 0 .. 2 { x = i; } out o = @i;": 120, "secret a; out o = a; @a = 1;": 120, "out o = 1; @fn sel(x) = x;": 120,
		"out p = 5; for i in 0 .. 2 { for j in 0 .. 999 { } } @for k in 0 .. 3 { }": 150, "out o = 1; for i in 0 .. 3 { @for j in 0 .. 700 { x = i; } }": 150,
	} {
		wrong(t, e, s)
	}
	s := "fn f0(x) = x;"
	for k := range 62 {
		s += fmt.Sprintf("fn f%d(x) = f%d(x);", k+1, k)
	}
	wrong(t, api.ErrResource, strings.Replace(s, "f0(x);", "@f0(x);", 1)+"secret a; out o = f61(a);")
	comes(t, s+"secret a; out o = f60(a);", "s0* o=0")
	s = "fn f0(x) = x;"
	for k := range 50 {
		s += fmt.Sprintf("fn f%d(x) = f%d(x) + f%d(x);", k+1, k, k)
	}
	_, place, err := flow.Check(tree(t, s+"out o = f50(1);"))
	told(t, s+"out o = f50(1);", api.Circuit{}, place, err)
	built(t, tree(t, s+"out o = f50(1);"), api.Circuit{}, place, err)
}

// P15.3: texts that parse refuses, with its error and place.
func TestNoProgram(t *testing.T) {
	for s, e := range map[string]api.Errno{
		"out o = 1@": 100, "x = @;": 100, "out o = 1; x = a @? b;": 100, "for i in 0 .. 1 { @out o = i; }": 100, "out o = 1; @}": 100, "out o = @0x;": 100, "out o = 1; x = @4294967296;": 150, "out o = " + strings.Repeat("(", 61) + "@1": 150, "@out o = 1;" + strings.Repeat(" ", 20000): 150, strings.Repeat("x=1;", 1000) + "@": 150, "fn f(@) = 1; out o = f();": 100,
	} {
		ahead, behind, _ := strings.Cut(s, mark)
		told(t, ahead+behind, api.Circuit{}, len(ahead), e)
	}
}

// What came of one program is of no matter to the next one, and no two circuits share memory.
func TestFromArgumentsAlone(t *testing.T) {
	const s = "secret a; public p; fn f(x) = x + 1; b = f(a); out o = b; show q = p; out r = b & p;"
	n := tree(t, s)
	first, _, _ := circ.Build(n)
	second, _, _ := circ.Build(n)
	third, _, _ := circ.Text(s)
	for _, c := range []api.Circuit{first, second, third} {
		if !alike(c, circuit(t, "s0* p0 #1 0+2* 3&1* o=3 q=1 r=4")) {
			t.Errorf("%s of %q", tell(c), s)
		}
		l, o := c.Gates[:cap(c.Gates)], c.Outs[:cap(c.Outs)]
		for k := range l {
			l[k] = api.Gate{K: 99, A: -1}
		}
		for k := range o {
			o[k] = api.Out{Name: "none", At: -1}
		}
	}
	comes(t, "secret b; fn f(x) = x + 2; out o = f(b);", "s0* #2 0+1* o=2")
	wrong(t, api.ErrType, "x = @b;")
	wrong(t, api.ErrType, "x = @f(1);")
	comes(t, s, "s0* p0 #1 0+2* 3&1* o=3 q=1 r=4")
}
