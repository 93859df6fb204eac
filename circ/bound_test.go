package circ_test

import (
	"fmt"
	"slices"
	"strings"
	"testing"

	"bauta/api"
	"bauta/circ"
)

// names are so many of them, with commas between.
func names(s string, many int) string {
	l := make([]string, many)
	for k := range l {
		l[k] = fmt.Sprint(s, k)
	}
	return strings.Join(l, ",")
}

// ones sets a variable to a number so many times.
func ones(many int) string {
	return fmt.Sprintf("for one in 0 .. %d { t = 1; } ", many)
}

// gates looks that so many gates come of s, and all of it that should.
func gates(t *testing.T, s string, many int) api.Circuit {
	t.Helper()
	n := tree(t, s)
	c, at, err := circ.Text(s)
	if len(c.Gates) != many || at != 0 || err != api.OK {
		t.Errorf("Text of %.300q: %d gates, %d, %v, not %d", s, len(c.Gates), at, err, many)
	}
	built(t, n, c, 0, api.OK)
	return c
}

// P15.3: just 1000 gates, and one more, by inputs.
func TestBoundOfInputs(t *testing.T) {
	c := gates(t, "secret "+names("a", 1000)+"; x = a999; out o = x; out p = a0;", 1000)
	for k, g := range c.Gates {
		if g != (api.Gate{K: 1, N: uint32(k), Secret: true}) {
			t.Errorf("gate %d: %+v", k, g)
		}
	}
	if c.Secrets != 1000 || c.Publics != 0 || !slices.Equal(c.Outs, []api.Out{{Name: "o", At: 999}, {Name: "p", At: 0}}) {
		t.Errorf("%d, %d, %v", c.Secrets, c.Publics, c.Outs)
	}
	c = gates(t, "public "+names("a", 1000)+"; out o = a500;", 1000)
	for k, g := range c.Gates {
		if g != (api.Gate{K: 2, N: uint32(k)}) {
			t.Errorf("gate %d: %+v", k, g)
		}
	}
	c = gates(t, "secret "+names("a", 700)+"; public "+names("p", 300)+"; out o = p299; show q = p0;", 1000)
	if c.Secrets != 700 || c.Publics != 300 || !slices.Equal(c.Outs, []api.Out{{Name: "o", At: 999}, {Name: "q", At: 700}}) {
		t.Errorf("%d, %d, %v", c.Secrets, c.Publics, c.Outs)
	}
	for _, word := range []string{"secret ", "public "} {
		wrong(t, api.ErrResource, "@"+word+names("a", 1001)+";")
		wrong(t, api.ErrResource, " @"+word+names("a", 1001)+"; out o = a0; public p;")
		wrong(t, api.ErrResource, word+names("a", 1000)+"; @secret b;")
		wrong(t, api.ErrResource, word+names("a", 1000)+"; x = a7; out o = x; @public b; out p = 1;")
		wrong(t, api.ErrResource, word+names("a", 999)+"; @public b, c;")
		wrong(t, api.ErrResource, word+names("a", 1000)+"; @x = 5;")
		wrong(t, api.ErrResource, word+names("a", 1000)+"; @out o = ~a0;")
		gates(t, word+names("a", 999)+"; secret b; out o = a1; out p = b;", 1000)
		gates(t, word+names("a", 1000)+"; for i in 0 .. 2000 { x = a3; y = x; x = y; } fn f(x) = x; out o = f(f(a7));", 1000)
		gates(t, ones(300)+word+names("a", 700)+"; out o = a699;", 1000)
		wrong(t, api.ErrResource, ones(300)+"@"+word+names("a", 701)+"; out o = a699;")
		wrong(t, api.ErrResource, ones(300)+"out o = 1; @"+word+names("a", 700)+"; out p = a699;")
	}
}

// P15.3: just 1000 gates, and up to as many more as an expression has, by what is set and by outputs.
func TestBoundOfStatements(t *testing.T) {
	for s, many := range map[string]int{
		"7": 1, "~7": 2, "-7": 3, "-~-7": 6, "1 + 2": 3, "1 - 2": 3, "1 & 2": 3, "1 | 2": 3, "1 ^ 2": 3, "1 << 2 + 3": 2, "1 >> 31": 2, "1 <<< 32": 2, "1 << 32": 2, "1 >> ~0": 2, "sel(1, 2, 3)": 6, "sel(a, a, a)": 3, "~a": 1, "-a": 2, "a + a": 1, "a - 1": 2, "a << 1": 1, "a << 40": 1, "f(1)": 2, "f(a)": 1, "g(a, 2, 3)": 6, "g(1, 2, h(3))": 7, "h(a + a)": 1, "h(1)": 1, "k(a)": 1, "a & (a | (a ^ (a + (a - a))))": 5, "f(f(f(f(f(a)))))": 5, "(1 + 2) - (3 + 4)": 7,
	} {
		const ahead = "public a; fn f(x) = ~x; fn g(x, y, z) = sel(z, f(x), y); fn h(x) = x; fn k(x) = 9; "
		for _, word := range []string{"out o = ", "show o = ", "o = "} {
			// The input is a gate, too.
			gates(t, ahead+ones(999-many)+word+s+"; x = a; out p = x; show q = a;", 1000)
			for more := range many {
				wrong(t, api.ErrResource, ahead+ones(999-more)+"@"+word+s+";")
				wrong(t, api.ErrResource, ahead+ones(999-more)+"q = a; @"+word+s+"; out p = a;")
			}
		}
		gates(t, ahead+"for i in 0 .. 1 { "+ones(999-many)+"o = "+s+"; x = a; } out p = a;", 1000)
		wrong(t, api.ErrResource, ahead+"for i in 0 .. 2 { "+ones(500-many)+"@o = "+s+"; x = a; } out p = a;")
	}
}

// P15.3: just 1000 gates, and one more, in loops.
func TestBoundOfLoops(t *testing.T) {
	gates(t, "for i in 0 .. 1000 { x = i; }", 1000)
	wrong(t, api.ErrResource, "for i in 0 .. 1001 { @x = i; }")
	wrong(t, api.ErrResource, "for i in 0 .. 2000 { y = 1; @x = y + i; }")
	gates(t, "for i in 0 .. 10 { for j in 0 .. 10 { for k in 0 .. 10 { x = k; } } }", 1000)
	wrong(t, api.ErrResource, "for i in 0 .. 10 { for j in 0 .. 10 { for k in 0 .. 10 { x = k; } } } for i in 0 .. 1 { @y = 1 << 7; }")
	wrong(t, api.ErrResource, "for i in 0 .. 10 { for j in 0 .. 10 { for k in 0 .. 10 { @x = k; } } y = i; }")
	wrong(t, api.ErrResource, "for i in 0 .. 10 { for j in 0 .. 10 { y = j; for k in 0 .. 9 { x = k; } } } @x = 1 + 2;")
	wrong(t, api.ErrResource, "x = 1; y = 1; for i in 0 .. 400 { x = x + y; @y = y ^ i; }")
	gates(t, "secret a; x = a; for i in 0 .. 333 { x = ~x ^ i; } out o = x;", 1000)
	wrong(t, api.ErrResource, "secret a; x = a; for i in 0 .. 334 { @x = ~x ^ i; } out o = x;")
	// The loops' own constants, and amounts, have no gates.
	gates(t, ones(999)+"for i in 1 + 2 .. (1 << 3) - 4 { x = 5; } for j in 3 + 4 .. 9 { for k in j .. j { x = 1; } }", 1000)
	gates(t, ones(998)+"x = 1 << (1 + 2 + 3 + 4 & 7); y = x; out o = y;", 1000)
}

// P15.3: flow's error goes ahead, wherever there would be too many gates.
func TestBoundAndWrong(t *testing.T) {
	wrong(t, api.ErrFlow, "secret a; "+ones(1500)+"@show o = a;")
	wrong(t, api.ErrType, ones(1500)+"public p; out o = 1 << @p;")
	wrong(t, api.ErrType, "secret "+names("a", 1001)+"; x = @y;")
	wrong(t, api.ErrType, ones(1500)+"out o = 1; @out o = 2;")
	wrong(t, api.ErrResource, ones(1500)+"@for i in 0 .. 501 { x = 1; }")
	wrong(t, api.ErrResource, "for one in 0 .. 1500 { @t = 1; } for i in 0 .. 500 { x = 1; }")
	told(t, ones(1500)+"x = 1 y", api.Circuit{}, len(ones(1500))+6, api.ErrSyntax)
}

// P15.3: how many gates there are of programs as great as may be.
func TestGreatPrograms(t *testing.T) {
	gates(t, strings.Repeat("x=1;", 999), 999)
	gates(t, "secret a;"+strings.Repeat("x=a;", 998), 1)
	gates(t, "x=1;"+strings.Repeat("x=-x;", 498), 997)
	gates(t, "secret a; out o = "+strings.Repeat("~(", 30)+"a"+strings.Repeat(")", 30)+";", 31)
	gates(t, "secret a; out o = "+strings.Repeat("~", 60)+"a;", 61)
	gates(t, "secret a; out o = "+strings.Repeat("(", 60)+"a"+strings.Repeat(")", 60)+";", 1)
	gates(t, "secret a; out o = a"+strings.Repeat("+a", 999)+";", 1000)
	wrong(t, api.ErrResource, "secret a; @out o = a"+strings.Repeat("+a", 1000)+";")
	gates(t, "secret a; out o = a"+strings.Repeat("|a<<40", 499)+";", 999)
	wrong(t, api.ErrResource, "secret a; @out o = a"+strings.Repeat("|a<<40", 500)+";")
	s, deep := "", "x = x + x;"
	for k := range 60 {
		s += fmt.Sprintf("for i%d in 0 .. 1 {", k)
	}
	gates(t, "x = 1; "+s+deep+strings.Repeat("}", 60)+" out o = x;", 2)
	s = "fn f0(x) = ~x;"
	for k := range 11 {
		s += fmt.Sprintf("fn f%d(x) = f%d(f%d(x));", k+1, k, k)
	}
	gates(t, s+"secret a; out o = f9(a);", 513)
	wrong(t, api.ErrResource, s+"secret a; @out o = f10(a);")
}
