package parse_test

import (
	"fmt"
	"slices"
	"strings"
	"testing"

	"bauta/api"
	"bauta/parse"
)

// The bounds, as the document writes them.
const (
	mostBytes  = 20000
	mostTokens = 4000
	mostDeep   = 60
)

// levels are the signs between two parts, those that hold least ahead.
func levels() [][]string {
	return [][]string{{"|"}, {"^"}, {"&"}, {"<<", ">>", "<<<"}, {"+", "-"}}
}

// Nodes as the document has them, kinds in numbers, each with its place; signs between two parts are where the left part is.
func num(n uint32, at int) api.Node                 { return api.Node{K: 0, N: n, At: at} }
func name(s string, at int) api.Node                { return api.Node{K: 1, S: s, At: at} }
func un(s string, at int, a api.Node) api.Node      { return api.Node{K: 2, S: s, At: at, L: list(a)} }
func call(s string, at int, l ...api.Node) api.Node { return api.Node{K: 5, S: s, At: at, L: l} }
func list(l ...api.Node) []api.Node                 { return l }

func bin(s string, a, b api.Node) api.Node {
	k := 3
	if strings.ContainsAny(s, "<>") {
		k = 4
	}
	return api.Node{K: k, S: s, At: a.At, L: list(a, b)}
}

// at is n where its bracket is.
func at(place int, n api.Node) api.Node {
	n.At = place
	return n
}

func inputs(k, at int, p ...string) api.Node { return api.Node{K: k, At: at, P: p} }

// set is a statement that sets a name to one part.
func set(k int, s string, at int, a api.Node) api.Node {
	return api.Node{K: k, S: s, At: at, L: list(a)}
}

func function(s string, at int, a api.Node, p ...string) api.Node {
	return api.Node{K: 12, S: s, At: at, L: list(a), P: p}
}

func loop(s string, at int, l ...api.Node) api.Node {
	return api.Node{K: 11, S: s, At: at, L: l}
}

func program(at int, l ...api.Node) api.Node {
	return api.Node{K: 13, At: at, L: l}
}

// same tells whether both trees are, places too; a nil list is an empty one.
func same(a, b api.Node) bool {
	return a.K == b.K && a.S == b.S && a.N == b.N && a.At == b.At && slices.Equal(a.P, b.P) && slices.EqualFunc(a.L, b.L, same)
}

// tell is a tree as a text, each node with its kind and its place.
func tell(n api.Node) string {
	b := strings.Builder{}
	fmt.Fprintf(&b, "%d@%d", n.K, n.At)
	if n.S != "" {
		fmt.Fprintf(&b, " %s", n.S)
	}
	if n.N != 0 {
		fmt.Fprintf(&b, " %d", n.N)
	}
	for _, s := range n.P {
		fmt.Fprintf(&b, " %s", s)
	}
	for _, part := range n.L {
		fmt.Fprintf(&b, " (%s)", tell(part))
	}
	return b.String()
}

// is looks that what was read of s is that tree.
func is(t *testing.T, s string, n api.Node, place int, err api.Errno, want api.Node) {
	t.Helper()
	if !same(n, want) || place != 0 || err != api.OK {
		t.Errorf("of %.200q: %.600s, %d, %v, not %.600s", s, tell(n), place, err, tell(want))
	}
}

// isNone looks that what was read of s is nothing but that error, there.
func isNone(t *testing.T, s string, n api.Node, place int, err api.Errno, at int, want api.Errno) {
	t.Helper()
	if !same(n, api.Node{}) || place != at || err != want {
		t.Errorf("of %.200q: %.300s, %d, %v, not %d, %v", s, tell(n), place, err, at, want)
	}
}

// reads looks that s is the program of that tree.
func reads(t *testing.T, s string, want api.Node) {
	t.Helper()
	n, place, err := parse.Parse(s)
	is(t, s, n, place, err, want)
}

// expr looks that s is the expression of that tree, alone and in a statement.
func expr(t *testing.T, s string, want api.Node) {
	t.Helper()
	n, place, err := parse.Expr(s)
	is(t, s, n, place, err, want)
	reads(t, "o="+s+";", program(0, set(10, "o", 0, moved(want, 2))))
}

// moved is n, so many bytes farther to the right, in memory of its own.
func moved(n api.Node, by int) api.Node {
	n.At += by
	n.P = slices.Clone(n.P)
	n.L = slices.Clone(n.L)
	for k := range n.L {
		n.L[k] = moved(n.L[k], by)
	}
	return n
}

// refused looks that s is no program, for that error, there.
func refused(t *testing.T, s string, at int, want api.Errno) {
	t.Helper()
	n, place, err := parse.Parse(s)
	isNone(t, s, n, place, err, at, want)
}

// noExpr looks that s is no expression, for that error, there; nor in a statement.
func noExpr(t *testing.T, s string, at int, want api.Errno) {
	t.Helper()
	n, place, err := parse.Expr(s)
	isNone(t, s, n, place, err, at, want)
	refused(t, "o="+s+";", at+2, want)
}

// P10.1, P10.2: each statement alone, with one name and with some.
func TestStatements(t *testing.T) {
	for s, want := range map[string]api.Node{
		"secret a;":               inputs(6, 0, "a"),
		"secret a, b,c ,d;":       inputs(6, 0, "a", "b", "c", "d"),
		"public a;":               inputs(7, 0, "a"),
		"public p , q ;":          inputs(7, 0, "p", "q"),
		"secret a, a;":            inputs(6, 0, "a", "a"),
		"out o = a;":              set(8, "o", 0, name("a", 8)),
		"show o = 7;":             set(9, "o", 0, num(7, 9)),
		"x = y;":                  set(10, "x", 0, name("y", 4)),
		"x=x;":                    set(10, "x", 0, name("x", 2)),
		"fn f(a) = a;":            function("f", 0, name("a", 10), "a"),
		"fn f(a, b , c) = b;":     function("f", 0, name("b", 17), "a", "b", "c"),
		"fn sel(m) = m;":          function("sel", 0, name("m", 12), "m"),
		"for i in 0 .. 4 { }":     loop("i", 0, num(0, 9), num(4, 14)),
		"for i in a..b{}":         loop("i", 0, name("a", 9), name("b", 12)),
		"for i in 0..2{x=i;}":     loop("i", 0, num(0, 9), num(2, 12), set(10, "x", 14, name("i", 16))),
		"for i in i..i{i=i;}":     loop("i", 0, name("i", 9), name("i", 12), set(10, "i", 14, name("i", 16))),
		"for x in 0..1{a=b;c=d;}": loop("x", 0, num(0, 9), num(1, 12), set(10, "a", 14, name("b", 16)), set(10, "c", 18, name("d", 20))),
		"for i in 1+2 .. ~3 {}":   loop("i", 0, bin("+", num(1, 9), num(2, 11)), un("~", 16, num(3, 17))),
	} {
		reads(t, s, program(0, want))
		// Behind another one, and at another place.
		reads(t, " \n"+s+s, program(2, moved(want, 2), moved(want, 2+len(s))))
		reads(t, "z=1;"+s+"z=2;", program(0, set(10, "z", 0, num(1, 2)), moved(want, 4), set(10, "z", 4+len(s), num(2, 6+len(s)))))
	}
}

// P10.1, P10.2: a program of no statements.
func TestEmptyPrograms(t *testing.T) {
	for _, s := range []string{"", " ", "\t", "\n", "//", "// a = b;", " // x\n", "\n\n// secret a;\n\t // }\n  "} {
		end := len(s)
		reads(t, s, program(end))
		n, place, err := parse.Expr(s)
		isNone(t, s, n, place, err, end, api.ErrSyntax)
	}
}

// row is a statement, blanks between its tokens, and which token is told of when one of them, in order, is left out, or is there twice; none (-1), if it is a program even so.
type row struct {
	s          string
	less, more []int
}

const none = -1

func rows() []row {
	return []row{
		{"secret a ;", []int{1, 1, 2}, []int{1, 2, 3}},
		{"secret a , b ;", []int{1, 1, 2, 3, 4}, []int{1, 2, 3, 4, 5}},
		{"public a ;", []int{1, 1, 2}, []int{1, 2, 3}},
		{"public a , b , c ;", []int{1, 1, 2, 3, 4, 5, 6}, []int{1, 2, 3, 4, 5, 6, 7}},
		{"out o = x + 1 ;", []int{none, 1, 2, 3, 4, 5, 6}, []int{1, 2, 3, 4, 5, 6, 7}},
		{"out o = x - 1 ;", []int{none, 1, 2, none, 4, 5, 6}, []int{1, 2, 3, 4, none, 6, 7}},
		{"show o = ~ x ;", []int{none, 1, 2, none, 4, 5}, []int{1, 2, 3, none, 5, 6}},
		{"fn f ( a ) = a ;", []int{1, 1, 2, 3, 4, 5, 6, 7}, []int{1, 2, 3, 4, 5, 6, 7, 8}},
		{"fn f ( a , b ) = a ;", []int{1, 1, 2, 3, 4, 5, 6, 7, 8, 9}, []int{1, 2, 3, 4, 5, 6, 7, 8, 9, 10}},
		{"a = b ;", []int{0, 1, 2, 3}, []int{1, 2, 3, 4}},
		{"a = f ( b , 1 ) ;", []int{0, 1, 4, 3, 4, 5, 6, 7, 8}, []int{1, 2, 3, 6, 5, 6, 7, 8, 9}},
		{"a = ( b & c ) ;", []int{0, 1, 5, 3, 4, 5, 6, 7}, []int{1, 2, 8, 4, 5, 6, 7, 8}},
		{"for i in 0 .. n { }", []int{1, 1, 2, 3, 4, 5, 6, 7}, []int{1, 2, 3, 4, 5, 6, 7, 8}},
		{"for i in 0 .. n { a = i ; }", []int{1, 1, 2, 3, 4, 5, 6, 7, 8, 9, 10, 11}, []int{1, 2, 3, 4, 5, 6, 7, 8, 9, 10, 11, 12}},
	}
}

// told looks that of these tokens, one blank between, that one is told of, their end, if there are no more; or none.
func told(t *testing.T, l []string, which int) {
	t.Helper()
	s := strings.Join(l, " ")
	if which == none {
		if n, place, err := parse.Parse(s); err != api.OK || place != 0 || len(n.L) != 1 {
			t.Errorf("Parse(%q) = %s, %d, %v", s, tell(n), place, err)
		}
		return
	}
	at := len(s)
	if which < len(l) {
		at = len(strings.Join(append(slices.Clone(l[:which]), ""), " "))
	}
	refused(t, s, at, api.ErrSyntax)
}

// P10.3: each statement with one of its tokens left out, or there twice.
func TestTokensLeftOutAndTwice(t *testing.T) {
	for _, r := range rows() {
		l := strings.Fields(r.s)
		for k := range l {
			told(t, slices.Delete(slices.Clone(l), k, k+1), r.less[k])
			told(t, slices.Insert(slices.Clone(l), k, l[k]), r.more[k])
		}
		// As far as they go, statements that are not at their end lack just that.
		for k := 1; k < len(l); k++ {
			told(t, l[:k], k)
		}
	}
}

// P10.3: some tokens in others' places.
func TestTokensInOthersPlaces(t *testing.T) {
	for s, at := range map[string]int{
		"a secret;": 2, "a, secret b;": 1, "; secret a": 0, "secret ; a": 7, "secret a b,;": 9, "public , a b;": 7,
		"out = o x;": 4, "out o x = ;": 6, "= out o x;": 0, "o out = x;": 2, "out o ; x =": 6, "out x = ; o": 8,
		"f fn (a) = a;": 2, "fn (f a) = a;": 3, "fn f a () = a;": 5, "fn f (a = ) a;": 8, "fn f (a) a = ;": 9, "fn f () = a a;": 6,
		"= a b;": 0, "a b = ;": 2, "a ; b =": 2, "a = ; b": 4,
		"i for in 0..1{}": 2, "for in i 0..1{}": 4, "for i 0 in ..1{}": 6, "for i in ..0 1{}": 9, "for i in 0 {..1}": 11, "for i in 0..{1}": 12, "for i in 0..1}{": 13,
		"for i in 0..1{a=i};": 17, "for i in 0..1{};": 15, "for i in 0 1..{}": 11, "for for in 0..1{}": 4, "for i = 0..1{}": 6, "for 0 in 0..1{}": 4,
		"secret 1;": 7, "secret out;": 7, "out out = 1;": 4, "out 1 = 1;": 4, "1 = a;": 0, "(a) = b;": 0, "a + b = c;": 2, "fn f(1) = 1;": 5, "fn f(a+b) = 1;": 6,
		"a;": 1, "a": 1, "f(a);": 1, "secret;": 6, "secret a = 1;": 9, "fn f = 1;": 5, "fn f(a), g(b) = a;": 7, "fn f(a) { a }": 8, "out f(a) = a;": 5,
		"{}": 0, "}": 0, "a = b; }": 7, "{ a = b; }": 0, ";": 0, "a = b;;": 6, "a = b; ;": 7, "in": 0, "..": 0, "(": 0, "~a = b;": 0, "fn in(a) = a;": 3,
		"a = for;": 4, "a = in;": 4, "a = fn(b);": 4, "a = secret;": 4, "a = b c;": 6, "a = b 1;": 6, "a = 1 b;": 6, "a = b = c;": 6, "a = b, c;": 5, "a = b .. c;": 6, "a == b;": 3,
	} {
		refused(t, s, at, api.ErrSyntax)
	}
}

// P10.1, P10.2: loops in loops, and what may not stand in one.
func TestLoops(t *testing.T) {
	inner := loop("j", 14, name("i", 23), num(3, 26))
	reads(t, "for i in 0..2{for j in i..3{}}", program(0, loop("i", 0, num(0, 9), num(2, 12), inner)))
	three := "for i in 0..2{\n\tfor j in i..3 {\n\t\ta = j;\n\t\tfor k in 0 .. 1 { }\n\t}\n\tb = i;\n}\nfor i in 5..5{}"
	reads(t, three, program(0,
		loop("i", 0, num(0, 9), num(2, 12),
			loop("j", 16, name("i", 25), num(3, 28),
				set(10, "a", 34, name("j", 38)),
				loop("k", 43, num(0, 52), num(1, 57))),
			set(10, "b", 67, name("i", 71))),
		loop("i", 76, num(5, 85), num(5, 88))))
	for _, s := range []string{"secret a;", "public a;", "out o = a;", "show o = a;", "fn f(a) = a;"} {
		refused(t, "for i in 0..1{"+s+"}", 14, api.ErrSyntax)
		refused(t, "for i in 0..1{a=i;\n"+s+"}", 19, api.ErrSyntax)
		refused(t, "for i in 0..1{for j in 0..1{}"+s+"}", 29, api.ErrSyntax)
		refused(t, "for i in 0..1{for j in 0..1{ "+s+"}}", 29, api.ErrSyntax)
		if n, _, err := parse.Parse("for i in 0..1{}" + s); err != api.OK || len(n.L) != 2 {
			t.Errorf("%q behind a loop: %s, %v", s, tell(n), err)
		}
	}
	for s, at := range map[string]int{
		"for i in 0..1{for j in 0..1{}": 29, "for i in 0..1{for j in 0..1{}}}": 30, "for i in 0..1{;}": 14, "for i in 0..1{{}}": 14,
		"for i in 0..1{a=i}": 17, "for i in 0..1{a=i;": 18, "for i in 0..1{1}": 14, "for i in 0..1{for}": 17, "for i in 0..1{)": 14,
	} {
		refused(t, s, at, api.ErrSyntax)
	}
}

// P10.1, P10.2: each sign between two names, each two signs one behind the other, three of one level.
func TestSignsBetween(t *testing.T) {
	for k, l := range levels() {
		for _, s := range l {
			expr(t, "a"+s+"b", bin(s, name("a", 0), name("b", 1+len(s))))
			noExpr(t, "a"+s, 1+len(s), api.ErrSyntax)
			noExpr(t, "(a"+s+")", 2+len(s), api.ErrSyntax)
			noExpr(t, "a b"+s+"c", 2, api.ErrSyntax)
			for m, others := range levels() {
				for _, u := range others {
					a, b, c := name("a", 0), name("b", 2+len(s)), name("c", 4+len(s)+len(u))
					want := bin(u, bin(s, a, b), c)
					if m > k {
						want = bin(s, a, bin(u, b, c))
					}
					expr(t, "a "+s+"b "+u+"c", want)
				}
			}
			for _, u := range l {
				for _, v := range l {
					b, c := 1+len(s), 2+len(s+u)
					want := bin(v, bin(u, bin(s, name("a", 0), name("b", b)), name("c", c)), name("d", 3+len(s+u+v)))
					expr(t, "a"+s+"b"+u+"c"+v+"d", want)
				}
			}
		}
	}
}

// P10.1: no sign but ~ and - stands ahead, none but those of the levels between; all levels at one time.
func TestSignsThatAreNone(t *testing.T) {
	for _, s := range []string{"|", "^", "&", "<<", ">>", "<<<", "+", "..", "=", ";", ",", ")", "{", "}"} {
		noExpr(t, s+"a", 0, api.ErrSyntax)
		noExpr(t, "a+"+s+" b", 2, api.ErrSyntax)
		noExpr(t, "("+s+"a)", 1, api.ErrSyntax)
		noExpr(t, "f(b,"+s+"a)", 4, api.ErrSyntax)
	}
	for _, s := range []string{"~", "..", "=", ";", "{", "}", ",", ")", "a", "1", "in"} {
		n, place, err := parse.Expr("b " + s + " c")
		isNone(t, "b "+s+" c", n, place, err, 2, api.ErrSyntax)
	}
	expr(t, "a|b^c&d<<e+f", bin("|", name("a", 0), bin("^", name("b", 2), bin("&", name("c", 4), bin("<<", name("d", 6), bin("+", name("e", 9), name("f", 11)))))))
	expr(t, "a+b<<c&d^e|f", bin("|", bin("^", bin("&", bin("<<", bin("+", name("a", 0), name("b", 2)), name("c", 5)), name("d", 7)), name("e", 9)), name("f", 11)))
	expr(t, "a ^ b & ~c", bin("^", name("a", 0), bin("&", name("b", 4), un("~", 8, name("c", 9)))))
	expr(t, "a^b|c^d", bin("|", bin("^", name("a", 0), name("b", 2)), bin("^", name("c", 4), name("d", 6))))
	expr(t, "a&b<<1&c", bin("&", bin("&", name("a", 0), bin("<<", name("b", 2), num(1, 5))), name("c", 7)))
	expr(t, "a<<1+2>>3", bin(">>", bin("<<", name("a", 0), bin("+", num(1, 3), num(2, 5))), num(3, 8)))
}

// P10.1, P10.2: ~ and - ahead.
func TestSignsAhead(t *testing.T) {
	for _, s := range []string{"~", "-"} {
		expr(t, s+"a", un(s, 0, name("a", 1)))
		expr(t, s+" 12", un(s, 0, num(12, 2)))
		expr(t, s+"(a)", un(s, 0, at(1, name("a", 2))))
		expr(t, s+"(a+b)", un(s, 0, at(1, bin("+", name("a", 2), name("b", 4)))))
		expr(t, s+"f(a)", un(s, 0, call("f", 1, name("a", 3))))
		noExpr(t, s, 1, api.ErrSyntax)
		noExpr(t, "a"+"+"+s, 3, api.ErrSyntax)
		noExpr(t, s+")", 1, api.ErrSyntax)
		noExpr(t, s+"+a", 1, api.ErrSyntax)
		noExpr(t, "("+s+")", 2, api.ErrSyntax)
		for _, u := range []string{"~", "-"} {
			expr(t, s+u+"a", un(s, 0, un(u, 1, name("a", 2))))
			expr(t, s+" "+u+s+"9", un(s, 0, un(u, 2, un(s, 3, num(9, 4)))))
		}
		// They hold closer than any sign between.
		for _, l := range levels() {
			for _, u := range l {
				b := 2 + len(u)
				expr(t, s+"a"+u+"b", bin(u, un(s, 0, name("a", 1)), name("b", b)))
				expr(t, "ab"+u+s+"b", bin(u, name("ab", 0), un(s, b, name("b", b+1))))
				expr(t, s+"a"+u+s+"b", bin(u, un(s, 0, name("a", 1)), un(s, b, name("b", b+1))))
			}
		}
	}
	expr(t, "a-b", bin("-", name("a", 0), name("b", 2)))
	expr(t, "a--b", bin("-", name("a", 0), un("-", 2, name("b", 3))))
	expr(t, "a - -b - c", bin("-", bin("-", name("a", 0), un("-", 4, name("b", 5))), name("c", 9)))
	expr(t, "-(-1)", un("-", 0, at(1, un("-", 2, num(1, 3)))))
	noExpr(t, "a~b", 1, api.ErrSyntax)
	noExpr(t, "a~", 1, api.ErrSyntax)
	noExpr(t, "a-", 2, api.ErrSyntax)
}

// P10.1, P10.2: calls.
func TestCalls(t *testing.T) {
	expr(t, "f(a)", call("f", 0, name("a", 2)))
	expr(t, "f (1, b , f(c))", call("f", 0, num(1, 3), name("b", 6), call("f", 10, name("c", 12))))
	expr(t, "sel(m, a, b)", call("sel", 0, name("m", 4), name("a", 7), name("b", 10)))
	expr(t, "f(a+b,~c)", call("f", 0, bin("+", name("a", 2), name("b", 4)), un("~", 6, name("c", 7))))
	expr(t, "f((a))", call("f", 0, at(2, name("a", 3))))
	expr(t, "f(a)+g(b)", bin("+", call("f", 0, name("a", 2)), call("g", 5, name("b", 7))))
	expr(t, "f(f(f(f(x))))", call("f", 0, call("f", 2, call("f", 4, call("f", 6, name("x", 8))))))
	for s, at := range map[string]int{
		"f()": 2, "f(,)": 2, "f(,a)": 2, "f(a,)": 4, "f(a,,b)": 4, "f(a b)": 4, "f(a;b)": 3, "f(a": 3, "f(": 2, "f(a,": 4, "f((a)": 5, "f(a))": 4, "f a)": 2,
		"f(a)(b)": 4, "f(a)b": 4, "f(a)1": 4, "1(a)": 1, "(f)(a)": 3, "f(~)": 3, "f(a+)": 4, "f(secret)": 2, "f(a=b)": 3, "f(a..b)": 3, "f{a}": 1,
		"in(a)": 0, "fn(a)": 0,
	} {
		noExpr(t, s, at, api.ErrSyntax)
	}
}

// P10.1, P10.2: brackets; what is in them is where they begin, what it is made of where it was.
func TestBrackets(t *testing.T) {
	expr(t, "(a)", at(0, name("a", 1)))
	expr(t, " ( 5 )", at(1, num(5, 3)))
	expr(t, "(((a)))", at(0, name("a", 3)))
	expr(t, "(a+b)", at(0, bin("+", name("a", 1), name("b", 3))))
	expr(t, "(~a)", at(0, un("~", 1, name("a", 2))))
	expr(t, "(f(a))", at(0, call("f", 1, name("a", 3))))
	expr(t, "((a)+b)", at(0, bin("+", at(1, name("a", 2)), name("b", 5))))
	expr(t, "(a)+b", bin("+", at(0, name("a", 1)), name("b", 4)))
	expr(t, "(a|b)&c", bin("&", at(0, bin("|", name("a", 1), name("b", 3))), name("c", 6)))
	expr(t, "a&(b|c)", bin("&", name("a", 0), at(2, bin("|", name("b", 3), name("c", 5)))))
	expr(t, "a-(b-c)", bin("-", name("a", 0), at(2, bin("-", name("b", 3), name("c", 5)))))
	expr(t, "(a-b)-c", bin("-", at(0, bin("-", name("a", 1), name("b", 3))), name("c", 6)))
	expr(t, "a<<(b>>c)<<<d", bin("<<<", bin("<<", name("a", 0), at(3, bin(">>", name("b", 4), name("c", 7)))), name("d", 12)))
	expr(t, "(a<<b)", at(0, bin("<<", name("a", 1), name("b", 4))))
	for s, at := range map[string]int{
		"()": 1, "(": 1, "(a": 2, "((a)": 4, "(a))": 3, ")": 0, ")a(": 0, "(a b)": 3, "(a,b)": 2, "(a;)": 2, "(a)(b)": 3, "(a)b": 3, "a(": 2, "(())": 2, "(a..b)": 2,
	} {
		noExpr(t, s, at, api.ErrSyntax)
	}
}

// P10.2, P10.3: numbers as word.Number has them; what is none, or too great a one.
func TestNumbers(t *testing.T) {
	for s, n := range map[string]uint32{
		"0": 0, "1": 1, "007": 7, "42": 42, "4294967295": 1<<32 - 1, "00004294967295": 1<<32 - 1, "0x0": 0, "0xfF": 255, "0xABCdef": 0xabcdef,
		"0xffffffff": 1<<32 - 1, "0x0FFFFFFFF": 1<<32 - 1, "0x80000000": 1 << 31,
	} {
		expr(t, s, num(n, 0))
		expr(t, "f("+s+",~"+s+")", call("f", 0, num(n, 2), un("~", 3+len(s), num(n, 4+len(s)))))
		reads(t, "for i in "+s+".."+s+"{}", program(0, loop("i", 0, num(n, 9), num(n, 11+len(s)))))
	}
	for s, want := range map[string]api.Errno{
		"0x": api.ErrSyntax, "0X1": api.ErrSyntax, "1a": api.ErrSyntax, "0b1": api.ErrSyntax, "0xg": api.ErrSyntax, "12x4": api.ErrSyntax, "99999999999z": api.ErrSyntax,
		"4294967296": api.ErrResource, "0x100000000": api.ErrResource, "99999999999999999999999": api.ErrResource, "00004294967296": api.ErrResource,
	} {
		noExpr(t, s, 0, want)
		noExpr(t, "a+ "+s, 3, want)
		noExpr(t, "("+s+")", 1, want)
		noExpr(t, "~"+s+" )", 1, want)
		noExpr(t, "f(a,"+s, 4, want)
		refused(t, "for i in "+s+"..", 9, want)
		refused(t, "for i in 0.."+s+"}", 12, want)
		refused(t, "fn f(a) = "+s, 10, want)
		// Of two things that are wrong the one ahead is told, whatever it is.
		noExpr(t, "4294967296+"+s, 0, api.ErrResource)
		noExpr(t, "0x+"+s, 0, api.ErrSyntax)
		noExpr(t, "a b+"+s, 2, api.ErrSyntax)
		// Where no number may stand, it is of no matter what it is.
		noExpr(t, "a "+s, 2, api.ErrSyntax)
		noExpr(t, "1 "+s, 2, api.ErrSyntax)
		noExpr(t, "(a) "+s, 4, api.ErrSyntax)
		refused(t, "secret "+s+";", 7, api.ErrSyntax)
		refused(t, s+" = a;", 0, api.ErrSyntax)
		refused(t, "for "+s, 4, api.ErrSyntax)
		refused(t, "out "+s, 4, api.ErrSyntax)
		refused(t, "fn f("+s, 5, api.ErrSyntax)
	}
}

// P10.3: what lex.Words refuses, though something ahead is wrong, too.
func TestWhatWordsRefuses(t *testing.T) {
	for s, at := range map[string]int{
		"a = b ? c;": 6, "?": 0, "a b c ?": 6, "a = 4294967296; $": 16, "a = 0x; #": 8, "a = b; /": 7, "a < b": 2, "\r": 0, "a = b.c;": 5, "a ! b": 2, ")) @": 3, "\xff": 0,
		"x = " + strings.Repeat("n", 33) + ";": 4, strings.Repeat("(", 70) + "?": 70,
	} {
		refused(t, s, at, api.ErrSyntax)
		n, place, err := parse.Expr(s)
		isNone(t, s, n, place, err, at, api.ErrSyntax)
	}
	for _, s := range []string{strings.Repeat(" ", mostBytes+1), "a = ? " + strings.Repeat("b", mostBytes), strings.Repeat(")", mostBytes+1)} {
		refused(t, s, 0, api.ErrResource)
		n, place, err := parse.Expr(s)
		isNone(t, s, n, place, err, 0, api.ErrResource)
	}
	refused(t, strings.Repeat(";", mostTokens), mostTokens, api.ErrResource)
	refused(t, strings.Repeat(") ", mostTokens+1), 2*mostTokens, api.ErrResource)
}

// P10.3: as many bytes and tokens as may be; parts from the left as many as there is room for.
func TestAsMuchAsMayBe(t *testing.T) {
	s := "a=b;" + strings.Repeat(" ", mostBytes-4)
	reads(t, s, program(0, set(10, "a", 0, name("b", 2))))
	refused(t, s+" ", 0, api.ErrResource)
	// Four tokens and the end, and two for each sign more: 3999, and one more with a sign ahead.
	for _, sign := range []string{"+", "|", "<<<"} {
		long := strings.Repeat(sign+"b", (mostTokens-5)/2)
		n, at, err := parse.Parse("a=b" + long + ";")
		if err != api.OK || at != 0 || parse.Count(n) != 2+1+2*((mostTokens-5)/2) {
			t.Errorf("many %s: %d nodes, %d, %v", sign, parse.Count(n), at, err)
		}
		refused(t, "a=b"+long+sign+"b;", len("a=b"+long+sign+"b;"), api.ErrResource)
	}
	// Four tokens each.
	many := strings.Repeat("a=b;", mostTokens/4-1)
	n, at, err := parse.Parse(many)
	if err != api.OK || at != 0 || len(n.L) != mostTokens/4-1 || parse.Count(n) != 2*(mostTokens/4-1)+1 {
		t.Errorf("many statements: %d nodes, %d, %v", parse.Count(n), at, err)
	}
	refused(t, many+"c=-", len(many)+3, api.ErrSyntax)
	refused(t, many+"c=-d", len(many)+4, api.ErrResource)
}

// P10.3: one expression, none, one with something behind it.
func TestExpr(t *testing.T) {
	expr(t, "a", name("a", 0))
	n, place, err := parse.Expr("\t// x\n a // y")
	is(t, "an expression and remarks", n, place, err, name("a", 7))
	for s, at := range map[string]int{
		"a;": 1, "a = b;": 2, "a b": 2, "a)": 1, "a,b": 1, "a..b": 1, "a 1": 2, "a }": 2, "secret a;": 0, "out o = a;": 0, "for": 0, "a\n\nout": 3, "a in": 2, "a fn": 2, "a ~b": 2, "": 0, ";": 0,
	} {
		n, place, err := parse.Expr(s)
		isNone(t, s, n, place, err, at, api.ErrSyntax)
	}
}

// P10.3: how many nodes there are.
func TestCount(t *testing.T) {
	for s, want := range map[string]int{
		"": 1, "secret a, b, c;": 2, "a = 1;": 3, "out o = a + b;": 5, "a = ((b));": 3, "a = ~-b;": 5, "a = f(b, c, 1);": 6, "fn f(a, b) = a;": 3,
		"for i in 0..1{}": 4, "for i in 0..1{a = i; b = i;}": 8, "a = 1; b = 2;": 5, "x=a^b&~c;": 8,
	} {
		n, _, err := parse.Parse(s)
		if got := parse.Count(n); err != api.OK || got != want {
			t.Errorf("Count of %q is %d, %v, not %d", s, got, err, want)
		}
	}
	// Any nodes, of any kinds.
	for _, n := range []api.Node{{}, {K: -1}, {K: 14, P: []string{"a", "b"}, N: 9}, {L: []api.Node{}}} {
		if got := parse.Count(n); got != 1 {
			t.Errorf("Count of %s is %d", tell(n), got)
		}
	}
	if got := parse.Count(api.Node{K: 99, L: list(call("f", 0, api.Node{}, api.Node{L: list(api.Node{}, api.Node{})}), api.Node{K: -7})}); got != 7 {
		t.Errorf("Count is %d, not 7", got)
	}
	deep := api.Node{}
	for range 1<<16 - 1 {
		deep = api.Node{L: list(deep)}
	}
	if got := parse.Count(deep); got != 1<<16 {
		t.Errorf("Count of a deep tree is %d", got)
	}
}

// junk fills the spare room of all lists of n.
func junk(n api.Node) {
	spare := n.L[len(n.L):cap(n.L)]
	for k := range spare {
		spare[k] = name("junk", -1)
	}
	texts := n.P[len(n.P):cap(n.P)]
	for k := range texts {
		texts[k] = "junk"
	}
	for _, part := range n.L {
		junk(part)
	}
}

// No list of a program is shared, spare room too: neither with another one of it, nor with another program's.
func TestAnswersAreNewMemory(t *testing.T) {
	s := "secret a,b,c;fn f(p,q,r,s,t)=p;for i in 0..1{a=f(i,2,3,4,5);b=i;c=(a+b)<<1;}out o=f(1,2,~a,4,g(a,b,c));"
	first, _, err := parse.Parse(s)
	second, _, _ := parse.Parse(s)
	if err != api.OK {
		t.Fatal(err)
	}
	want := moved(first, 0)
	junk(first)
	is(t, s, first, 0, api.OK, want)
	var spoil func(n api.Node)
	spoil = func(n api.Node) {
		for k := range n.L {
			spoil(n.L[k])
			n.L[k] = name("spoilt", -1)
		}
		for k := range n.P {
			n.P[k] = "spoilt"
		}
	}
	spoil(first)
	is(t, s, second, 0, api.OK, want)
}
