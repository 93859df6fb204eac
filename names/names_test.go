package names_test

import (
	"fmt"
	"reflect"
	"slices"
	"strings"
	"testing"

	"bauta/api"
	"bauta/names"
	"bauta/parse"
)

// tree is what parse reads of s, which is a program.
func tree(t *testing.T, s string) api.Node {
	t.Helper()
	n, at, err := parse.Parse(s)
	if err != api.OK {
		t.Fatalf("Parse(%.300q): %d, %v", s, at, err)
	}
	return n
}

// copied is n in memory of its own.
func copied(n api.Node) api.Node {
	n.P = slices.Clone(n.P)
	n.L = slices.Clone(n.L)
	for k := range n.L {
		n.L[k] = copied(n.L[k])
	}
	return n
}

// tell is what a test was about as a text, as far as it is of use.
func tell(x any) string {
	return fmt.Sprintf("%.600s", fmt.Sprintf("%+v", x))
}

// sameNames tells whether both are the same, nil and empty lists alike.
func sameNames(a, b api.Names) bool {
	return slices.Equal(a.Secrets, b.Secrets) && slices.Equal(a.Publics, b.Publics) && slices.Equal(a.Outs, b.Outs)
}

// checks looks that Check tells just this of n, and leaves it as it was.
func checks(t *testing.T, n api.Node, want api.Names, place int, e api.Errno) {
	t.Helper()
	ahead := copied(n)
	got, at, err := names.Check(n)
	if !sameNames(got, want) || at != place || err != e {
		t.Errorf("Check of %s: %s, %d, %v, not %s, %d, %v", tell(n), tell(got), at, err, tell(want), place, e)
	}
	if !reflect.DeepEqual(n, ahead) {
		t.Errorf("Check made %s of %s", tell(n), tell(ahead))
	}
}

// right looks that s is a program of those names.
func right(t *testing.T, s string, want api.Names) {
	t.Helper()
	n := tree(t, s)
	checks(t, n, want, 0, api.OK)
	again, got, at, err := names.Program(s)
	if !reflect.DeepEqual(again, n) || !sameNames(got, want) || at != 0 || err != api.OK {
		t.Errorf("Program(%.300q): %s, %s, %d, %v, not %s, %s", s, tell(again), tell(got), at, err, tell(n), tell(want))
	}
}

// goes looks that s is a program, with some names.
func goes(t *testing.T, s string) {
	t.Helper()
	got, at, err := names.Check(tree(t, s))
	if at != 0 || err != api.OK {
		t.Errorf("Check of %.300q: %d, %v", s, at, err)
		return
	}
	right(t, s, got)
}

// refused looks that Program tells just that error of s, there.
func refused(t *testing.T, s string, place int, e api.Errno) {
	t.Helper()
	n, got, at, err := names.Program(s)
	if !reflect.DeepEqual(n, api.Node{}) || !sameNames(got, api.Names{}) || at != place || err != e {
		t.Errorf("Program(%.300q): %s, %s, %d, %v, not %d, %v", s, tell(n), tell(got), at, err, place, e)
	}
}

// mark stands in texts ahead of what is wrong first.
const mark = "@"

// wrong looks that s, without its mark, is wrong first where that stands.
func wrong(t *testing.T, s string) {
	t.Helper()
	ahead, behind, is := strings.Cut(s, mark)
	if !is {
		t.Fatalf("no mark in %q", s)
	}
	checks(t, tree(t, ahead+behind), api.Names{}, len(ahead), api.ErrType)
	refused(t, ahead+behind, len(ahead), api.ErrType)
}

// outs are outputs; those with a ! are shown.
func outs(l ...string) []api.Label {
	all := []api.Label{}
	for _, s := range l {
		name, shown := strings.CutSuffix(s, "!")
		all = append(all, api.Label{Name: name, Secret: false, Shown: shown})
	}
	return all
}

func list(l ...string) []string { return l }

// The document's examples.
func TestExamples(t *testing.T) {
	wrong(t, "x = @a;")
	wrong(t, "secret a; for i in 0 .. 2 { t = a; } out o = @t;")
	right(t, "secret a; out o = 1 << a;", api.Names{Secrets: list("a"), Outs: outs("o")})
	right(t, "secret a, b; out o = a & b;", api.Names{Secrets: list("a", "b"), Outs: outs("o")})
}

// P12.3: each list in its order, and lists that are empty.
func TestNames(t *testing.T) {
	right(t, "", api.Names{})
	right(t, "// nothing\n", api.Names{})
	right(t, "x = 1; fn f(a) = a; for i in 0 .. 2 { x = f(i); }", api.Names{})
	right(t, "secret a;", api.Names{Secrets: list("a")})
	right(t, "public a;", api.Names{Publics: list("a")})
	right(t, "out o = 1;", api.Names{Outs: outs("o")})
	right(t, "show o = 1;", api.Names{Outs: outs("o!")})
	right(t, "secret b, c, a;", api.Names{Secrets: list("b", "c", "a")})
	right(t, "public z, y; public x; public w, a;", api.Names{Publics: list("z", "y", "x", "w", "a")})
	right(t, "secret b; public q; secret a, c; public p, r; secret d;", api.Names{Secrets: list("b", "a", "c", "d"), Publics: list("q", "p", "r")})
	right(t, "out o = 1; show n = 2; show p = 3; out m = 4; show a = 5;", api.Names{Outs: outs("o", "n!", "p!", "m", "a!")})
	right(t, `secret key, m; public salt;
		fn g(x) = x; fn f(x, y) = x ^ y & ~g(x);
		t = f(key, m); for i in 0 .. 3 { u = t <<< i; t = u + salt; }
		out o = t; show s = salt; secret last; out p = sel(last, t, 0x7f); show q = -1;`,
		api.Names{Secrets: list("key", "m", "last"), Publics: list("salt"), Outs: outs("o", "s!", "p", "q!")})
	// What is secret is not told here, whatever an output is made of.
	right(t, "secret a; out o = a; show p = a + 1; x = a; show q = x;", api.Names{Secrets: list("a"), Outs: outs("o", "p!", "q!")})
}

// P12.1, P12.3: many names, in their order.
func TestManyNames(t *testing.T) {
	var want api.Names
	b := strings.Builder{}
	for k := range 200 {
		s, p, o := fmt.Sprint("s", 97*k%200), fmt.Sprint("p", 83*k%200), fmt.Sprint("o", 7*k%200)
		word := "out"
		if k%3 == 0 {
			word = "show"
		}
		fmt.Fprintf(&b, "public %s;secret %s;%s %s=%s&%s;", p, s, word, o, s, p)
		want.Secrets, want.Publics = append(want.Secrets, s), append(want.Publics, p)
		want.Outs = append(want.Outs, api.Label{Name: o, Shown: k%3 == 0})
	}
	right(t, b.String(), want)
}

// place is a way in which a name is something: what stands ahead, the name, what it is.
type place struct{ ahead, name, sort string }

func places() []place {
	return []place{
		{"x = 1;", "n", "nothing"}, {"fn f(n) = n;", "n", "nothing"}, {"for n in 0 .. 1 { }", "n", "nothing"}, {"for i in 0 .. 1 { n = i; }", "n", "nothing"}, {"secret m; m2 = m;", "n", "nothing"},
		{"secret n;", "n", "input"}, {"public n;", "n", "input"}, {"secret m, n;", "n", "input"}, {"public n, m, l;", "n", "input"}, {"public l, n, m; secret k;", "n", "input"},
		{"fn n(a) = a;", "n", "function"}, {"fn n(a, b) = 1;", "n", "function"}, {"", "sel", "function"}, {"secret m; x = sel(m, 1, 2);", "sel", "function"},
		{"n = 1;", "n", "variable"}, {"n = 1; n = n;", "n", "variable"}, {"n = 1; for i in 0 .. 1 { n = i; }", "n", "variable"}, {"for i in 0 .. 1 { n = i; } n = 2;", "n", "variable"},
		{"out n = 1;", "n", "output"}, {"show n = 1;", "n", "output"}, {"out m = 1; show n = 2; out l = 3;", "n", "output"},
	}
}

// naming is a statement that names NAME, and what that must not be.
type naming struct{ s, not string }

func namings() []naming {
	const anything = "input function variable"
	return []naming{
		{"secret NAME;", anything}, {"secret NAME, y, z;", anything}, {"secret y, NAME;", anything}, {"secret y, NAME, z;", anything},
		{"public NAME;", anything}, {"public NAME, y;", anything}, {"public y, NAME, z;", anything}, {"public y, z, NAME;", anything},
		{"fn NAME(y) = y;", anything}, {"fn NAME(y, z) = y + z;", anything}, {"fn NAME(y) = 1;", anything},
		{"fn g(NAME) = NAME;", "function"}, {"fn g(y, NAME) = 1;", "function"}, {"fn g(NAME, y, z) = y;", "function"}, {"fn g(y, NAME, z) = NAME + z;", "function"},
		{"NAME = 1;", "input function"}, {"NAME = 1 + 2;", "input function"},
		{"for NAME in 0 .. 1 { }", anything}, {"for NAME in 0 .. 1 { y = NAME; }", anything}, {"for NAME in 0 .. 1 { y = NAME; for z in 0 .. y { } }", anything},
		{"out NAME = 1;", "output"}, {"show NAME = 1;", "output"}, {"out NAME = 1 + 2;", "output"},
	}
}

// P12.2: each kind of statement, of each name that is something ahead: what it may name, and where it is wrong else.
func TestNamedAgain(t *testing.T) {
	for _, p := range places() {
		for _, s := range namings() {
			statement := strings.ReplaceAll(s.s, "NAME", p.name)
			if strings.Contains(s.not, p.sort) {
				wrong(t, p.ahead+mark+statement)
				wrong(t, p.ahead+" q = 7;\n"+mark+statement+" r = none;")
			} else {
				goes(t, p.ahead+statement)
				wrong(t, p.ahead+" q = 7;\n"+statement+" r = @none;")
			}
		}
	}
}

// P12.2: a name that stands twice in one statement.
func TestTwiceInOne(t *testing.T) {
	for _, word := range []string{"secret ", "public "} {
		for _, l := range []string{"a, a", "a, b, a", "b, a, a", "a, a, b", "a, a, a", "a, b, b, a"} {
			wrong(t, "x = 1; @"+word+l+";")
			wrong(t, "@"+word+l+"; secret a;")
		}
		goes(t, word+"a, aa, A, a_;")
	}
	for _, l := range []string{"a, a", "a, b, a", "b, a, a", "a, a, b"} {
		wrong(t, "x = 1; @fn f("+l+") = a;")
		wrong(t, "@fn f("+l+") = none;")
	}
	wrong(t, "@fn f(f) = 1;")
	wrong(t, "@fn f(f) = f;")
	wrong(t, "@fn f(a, f) = a;")
	wrong(t, "@fn f(a, b, f, c) = a;")
	goes(t, "fn f(a, aa, A, a_, F) = a;")
}

// P12.1, P12.2: an output's name is of no matter to the others, nor they to it.
func TestOutputsNames(t *testing.T) {
	right(t, "secret a; out a = a; out sel = a; x = 1; show x = x; fn f(a) = a; out f = f(a); for i in 0 .. 1 { } out i = 1;",
		api.Names{Secrets: list("a"), Outs: outs("a", "sel", "x!", "f", "i")})
	right(t, "out a = 1; secret a; out b = a; b = 2; out f = b; fn f(b) = b; show i = f(1); for i in 0 .. 1 { j = i; }",
		api.Names{Secrets: list("a"), Outs: outs("a", "b", "f", "i!")})
	wrong(t, "out a = 1; out b = @a;")
	wrong(t, "show a = 1; x = @a;")
	wrong(t, "out f = 1; out b = @f(1);")
	wrong(t, "out a = 1; @out a = 2;")
	wrong(t, "out a = 1; @show a = 2;")
	wrong(t, "show a = 1; b = 1; secret a; @out a = a;")
	wrong(t, "show a = 1; out b = 2; @show b = 1;")
}

// P12.1: what a name is, and from where on.
func TestWhatANameIs(t *testing.T) {
	for _, s := range []string{
		"secret a; x = a;", "public a; x = a;", "secret b, a; x = a;", "a = 1; x = a;", "a = 1; a = a + a; x = a;", "for a in 0 .. 1 { x = a; }", "for i in 0 .. 1 { a = i; x = a; }",
		"secret n; a = n; out o = a; b = a; show p = b;", "x = 1; for i in x .. x { for j in i .. x + i { x = i + j; } }",
	} {
		goes(t, s)
	}
	for _, s := range []string{
		"x = @a; secret a;", "x = @a; a = 1;", "x = @x;", "a = 1; x = a + @x;", "out o = @o;", "x = @a; for a in 0 .. 1 { }", "for i in 0 .. 1 { x = @a; a = i; }", "for i in 0 .. 1 { x = i; x = @y; y = x; }",
		"fn f(a) = a; x = @f;", "x = @sel;", "fn f(a) = a; x = @a;", "fn f(a) = a; x = f(@a);", "for i in @i .. 2 { }", "for i in 0 .. @i { }", "secret a; x = @A;", "secret a; x = @a_;", "secret a_; x = @a;",
		"secret a; public b; x = a + b + @c;", "show p = @q; secret q;",
	} {
		wrong(t, s)
	}
}

// P12.1, P12.2: sel is there from the first, of three.
func TestSel(t *testing.T) {
	goes(t, "x = sel(1, 2, 3);")
	goes(t, "secret m, a, b; out o = sel(m, a, b) + sel(sel(m, b, a), ~m, 1 + 2);")
	goes(t, "fn f(m, a) = sel(m, a, sel(a, m, m)); x = f(1, 2);")
	goes(t, "for i in 0 .. sel(1, 2, 3) { x = sel(i, i, i); }")
	for _, l := range []string{"1", "1, 2", "1, 2, 3, 4", "1, 2, 3, 4, 5, 6", "none", "none, 1", "none, 1, 2, 3"} {
		wrong(t, "x = @sel("+l+");")
		wrong(t, "fn f(a) = @sel("+l+");")
		wrong(t, "fn f(a) = a; out o = 1 + f(@sel("+l+"));")
	}
	for _, s := range []string{"secret sel;", "public a, sel;", "sel = 1;", "fn sel(m, a, b) = m;", "fn sel(a) = a;", "fn f(sel) = 1;", "for sel in 0 .. 1 { }"} {
		wrong(t, mark+s)
		wrong(t, "x = sel(1, 2, 3); @"+s+" y = none;")
	}
	wrong(t, "for i in 0 .. 1 { @sel = i; }")
	wrong(t, "for i in 0 .. 1 { @for sel in 0 .. 1 { } }")
	right(t, "show sel = sel(1, 2, 3);", api.Names{Outs: outs("sel!")})
}

// P12.2: in a function's expression just its parameters are names, and just functions ahead of it functions.
func TestFunctions(t *testing.T) {
	for _, s := range []string{
		"fn f(a) = a;", "fn f(a, b) = 1;", "fn f(a, b, c) = a + b - (c & ~a | b ^ 5) << c >> 0;", "secret a; fn f(a) = a; x = f(a) + a;", "a = 1; fn f(b, a) = a; x = f(a, a) + a;",
		"fn g(a) = a; fn f(a, b) = g(a) + g(g(b)); x = f(1, g(2));", "fn f(a) = a; fn g(a) = f(a); fn h(a) = g(f(a)); x = h(g(f(1)));", "fn f(i) = i; for i in 0 .. 1 { x = f(i); }",
		"fn f(x) = x; secret x; y = f(x);", "fn f(g) = g; fn g(f1) = f(f1); x = g(1);", "fn f(a) = a; out g = f(1); fn g(a) = a; x = g(2);",
	} {
		goes(t, s)
	}
	for _, s := range []string{
		"secret a; fn f(b) = @a;", "public a; fn f(b) = b + @a;", "a = 1; fn f(b) = @a;", "secret a; fn f(b, c) = b & (c | ~@a);", "fn f(a) = @b;", "fn f(a, b) = a + b + @c + d;", "fn f(a) = @f;",
		"fn g(a) = a; fn f(b) = @a;", "fn g(a) = a; fn f(b) = @g;", "fn f(a) = @f(a);", "fn f(a) = sel(a, a, @f(a));", "fn f(a) = @g(a); fn g(a) = a;", "fn f(a) = @a(1);", "fn f(a, b) = @b(a);", "out o = 1; fn f(a) = @o;",
		"fn g(a) = a; fn f(b) = @g(b, b);", "fn g(a, c) = a; fn f(b) = g(b, @g(b));", "fn f(a) = a << @b;", "fn f(a) = a; fn g(b) = @f(b, none);", "fn f(a) = a; fn g(b) = f(@none);",
		"fn f(a) = a; @f = 1;", "fn f(a) = a; x = 1; @secret f;", "@fn f(a, a) = b;", "fn f(a) = a; @fn f(b, b) = c;",
	} {
		wrong(t, s)
	}
}

// P12.2: calls of functions, of another number of parts, and of what is no function.
func TestCalls(t *testing.T) {
	for _, params := range []int{1, 2, 3, 4, 9} {
		var p []string
		for k := range params {
			p = append(p, fmt.Sprint("p", k))
		}
		ahead := "secret a; fn f(" + strings.Join(p, ", ") + ") = p0; "
		for parts := 1; parts < 12; parts++ {
			call := "f(" + strings.Repeat("a, ", parts-1) + "a)"
			if parts == params {
				goes(t, ahead+"x = "+call+"; out o = 1 + ~"+call+"; for i in "+call+" .. "+call+" { x = "+call+"; } fn g(a) = "+call+";")
				continue
			}
			for _, s := range []string{"x = @CALL;", "out o = @CALL;", "show o = 1 + -(~@CALL ^ none);", "for i in @CALL .. none { }", "for i in 0 .. @CALL { }", "for i in 0 .. 1 { x = @CALL; }", "fn g(a) = a | @CALL;"} {
				wrong(t, ahead+strings.Replace(s, "CALL", call, 1))
			}
		}
	}
	for _, s := range []string{
		"x = @f(1);", "x = @f(1); fn f(a) = a;", "secret a; x = @a(1);", "public a; x = @a(a);", "a = 1; x = @a(1);", "for i in 0 .. 1 { x = @i(i); }", "out f = 1; x = @f(1);", "fn f(a) = a; x = @a(1);", "x = 1; x = @x(1);",
		"fn f(a) = a; x = @F(1);", "fn f(a) = a; x = f(@g(1)); fn g(a) = a;", "x = @g(1) + h(2);", "fn g(a) = a; x = g(1) + @h(2);",
	} {
		wrong(t, s)
	}
}

// P12.2: a name that is none, wherever in an expression, ahead of what is wrong farther on, and behind it.
func TestNoName(t *testing.T) {
	for _, expr := range []string{
		"@b", "~@b", "-@b", "--~~-@b", "a + @b", "@b + a", "a - a - a - @b", "@b - a - a", "a << @b", "@b >> 1", "1 <<< (2 + @b)", "(a & (a | (a ^ @((b)))))", "sel(@b, a, a)", "sel(a, a, @b)", "f(@b)", "f(f(f(f(@b))))",
		"@b + c", "@b + f(1, 2)", "f(@b) + c", "sel(a, @b, c)", "a + sel(a, a, sel(a, f(a & 1 << -@b), c)) + c",
		"@b(c)", "@b(c) + d", "a + @f(c, c)", "@f(c, c) + c", "f(@b(c))", "@b(f(c, c))", "~@b(c)", "sel(1, @f(1, 2), c)", "@sel(c, c)", "sel(a, a, a) + @c",
	} {
		for _, s := range []string{
			"x = EXPR;", "out o = EXPR;", "show o = EXPR;", "for i in EXPR .. 1 { }", "for i in 0 .. EXPR { }", "for i in 0 .. 1 { x = EXPR; }", "for i in 0 .. 1 { for j in 0 .. 2 { for k in i .. EXPR { } } }", "fn g(a) = EXPR;",
		} {
			s = "secret a; fn f(a) = a; " + strings.ReplaceAll(s, "EXPR", expr)
			wrong(t, s)
			wrong(t, s+" y = none; secret a;")
			at := strings.Index(s, mark)
			refused(t, "y = none; "+s[:at]+s[at+1:], 4, api.ErrType)
			refused(t, "secret z, z; "+s[:at]+s[at+1:], 0, api.ErrType)
		}
	}
	// As deep down as may be, and among as many as may be.
	wrong(t, "a = 1; x = "+strings.Repeat("(a + ", 60)+"@b"+strings.Repeat(")", 60)+";")
	wrong(t, "a = 1; x = "+strings.Repeat("~", 60)+"@b;")
	wrong(t, "a = 1; x = a"+strings.Repeat(" + a", 1900)+" + @b;")
	wrong(t, "a = 1; x = @b"+strings.Repeat(" + a", 1900)+" + c;")
}

// P12.2: within one statement an expression goes ahead of the name; a function's name, and its parameters, go ahead of its expression.
func TestOrderInOne(t *testing.T) {
	for _, s := range []string{
		"secret a; a = @b;", "fn f(a) = a; f = @b;", "sel = @b;", "secret a; a = @f(1);", "out o = 1; out o = @b;", "show o = 1; show o = sel(1, 2, @b);", "out o = 1; show o = @f(1);",
		"secret a; for a in @b .. c { }", "a = 1; for a in 1 .. @c { d = e; }", "for sel in @b(1) .. 2 { }", "fn f(a) = a; for f in 1 .. 2 + @c { }", "for i in 0 .. 1 { i = @b; }", "for i in 0 .. 1 { for i in @b .. 1 { } }", "for i in 0 .. 1 { for i in 0 .. @b { } }",
		"secret a; @for a in 0 .. 1 { d = e; }", "for i in @b .. c { }", "secret a; @fn a(b) = c;", "@fn f(a, a) = c;", "@fn f(sel) = c;", "@fn f(f) = c(d);", "fn f(a) = @b(c); fn f(a) = a;", "secret a; @secret b, a; x = c;",
	} {
		wrong(t, s)
	}
}

// P12.2: a loop's variable, and what is in loops: within it is what it is, and behind it none any more.
func TestLoops(t *testing.T) {
	for _, s := range []string{
		"for i in 0 .. 1 { } i = 1; x = i;", "for i in 0 .. 1 { } secret i; x = i;", "for i in 0 .. 1 { } public i; x = i;", "for i in 0 .. 1 { } fn i(a) = a; x = i(1);", "for i in 0 .. 1 { } for i in 0 .. 1 { x = i; }",
		"for i in 0 .. 1 { t = i; } secret t; x = t;", "for i in 0 .. 1 { t = i; } fn t(a) = a; x = t(1);", "for i in 0 .. 1 { t = i; } for t in 0 .. 1 { x = t; }", "for i in 0 .. 1 { t = i; } t = 1; x = t;",
		"x = 1; for i in 0 .. 1 { x = i; } y = x;", "secret a; for i in 0 .. 1 { x = a + i; } y = a;", "fn f(a) = a; for i in 0 .. f(1) { x = f(i); } y = f(2);",
		"for i in 0 .. 1 { t = i; for j in i .. t { u = t + j; t = u; } t = t + i; }", "for i in 0 .. 1 { for j in 0 .. i { } for j in 0 .. i { x = j; } j = i; x = j; }", "for i in 0 .. 1 { for j in 0 .. 1 { x = j; } for x in 0 .. 1 { y = x; } }",
		"x = 1; for i in 0 .. 1 { for j in 0 .. 1 { x = j; } y = x; } z = x;", "for i in 0 .. 1 { x = i; } for j in 0 .. 1 { x = j; } for k in 0 .. 1 { i = k; j = i; }", "for i in 0 .. 1 { x = 1; for j in 0 .. 1 { x = 2; } y = x; }",
		"t = 1; for i in 0 .. 1 { t = 2; } for j in 0 .. 1 { t = 3; } x = t;", "for i in 0 .. 1 { for j in 0 .. 1 { t = 1; } for j in 0 .. 1 { t = j; x = t; } t = 4; x = t; }",
	} {
		goes(t, s)
	}
	for _, s := range []string{
		"for i in 0 .. 1 { } x = @i;", "for i in 0 .. 1 { t = 1; } x = @t;", "for i in 0 .. 1 { t = i; } t = @t;", "for i in 0 .. 1 { t = i; } for j in 0 .. @t { }", "for i in 0 .. 1 { t = i; } for j in 0 .. 1 { x = @t; }", "for i in 0 .. 1 { } for j in 0 .. 1 { x = @i; }",
		"for i in 0 .. 1 { @i = 1; }", "for i in 0 .. 1 { x = 1; @i = x; }", "for i in 0 .. 1 { @for i in 0 .. 1 { } }", "for i in 0 .. 1 { for j in 0 .. 1 { @i = 1; } }", "for i in 0 .. 1 { for j in 0 .. 1 { @for i in 0 .. 1 { } } }", "for i in 0 .. 1 { for j in 0 .. 1 { @j = 1; } }",
		"for i in 0 .. 1 { for j in 0 .. 1 { } x = @j; }", "for i in 0 .. 1 { for j in 0 .. 1 { t = j; } x = @t; }", "for i in 0 .. 1 { for j in 0 .. 1 { t = j; } for k in 0 .. @t { } }", "for i in 0 .. 1 { for j in 0 .. 1 { t = j; } } x = @t;", "for i in 0 .. 1 { for j in 0 .. 1 { } } x = @i;",
		"for i in 0 .. 1 { t = 1; @for t in 0 .. 1 { } }", "t = 1; for i in 0 .. 1 { @for t in 0 .. 1 { } }", "secret a; for i in 0 .. 1 { @a = 1; }", "fn f(a) = a; for i in 0 .. 1 { @f = 1; }", "fn f(a) = a; for i in 0 .. 1 { @for f in 0 .. 1 { } }",
		"for i in 0 .. 1 { for j in 0 .. 1 { } @i = 1; }", "for i in 0 .. 1 { for j in 0 .. 1 { t = 1; } @for i in 0 .. 1 { } }", "x = 1; for i in 0 .. 1 { x = i; y = x; } z = x + @y;", "for i in 0 .. 1 { x = 1; for j in 0 .. 1 { x = 2; y = 3; } z = x; w = @y; }",
		"for i in 0 .. 1 { t = i; } x = 1; @for x in 0 .. 1 { }", "for i in 0 .. 1 { x = 1; } x = 2; @secret x;", "for i in 0 .. 1 { x = 1; for j in 0 .. 1 { x = 2; } @for x in 0 .. 1 { } }",
	} {
		wrong(t, s)
	}
}

// P12.2: as many loops in one another as may be: each one's variable, and what is set in it.
func TestLoopsInLoops(t *testing.T) {
	open, shut := strings.Builder{}, strings.Builder{}
	const deep = 60
	for k := range deep {
		fmt.Fprintf(&open, "for i%d in 0 .. 1 { t%d = i%d; ", k, k, k)
	}
	for k := deep - 1; k >= 0; k-- {
		fmt.Fprintf(&shut, "x = i%d + t%d; } ", k, k)
	}
	goes(t, open.String()+shut.String()+"i0 = 1; t0 = 2; secret i1, t1;")
	for k := range deep {
		behind := fmt.Sprintf("x = i%d + t%d; } ", k, k)
		at := strings.Index(shut.String(), behind) + len(behind)
		for _, s := range []string{"i", "t"} {
			wrong(t, open.String()+shut.String()[:at]+fmt.Sprintf("x = @%s%d; ", s, k)+shut.String()[at:])
		}
		wrong(t, open.String()+fmt.Sprintf("@i%d = 1; ", k)+shut.String())
		wrong(t, open.String()+fmt.Sprintf("@for i%d in 0 .. 1 { ", k)+"} "+shut.String())
		wrong(t, open.String()+fmt.Sprintf("@for t%d in 0 .. 1 { ", k)+"} "+shut.String())
	}
}

// P12.3: the errors of parse go ahead, with their places, whatever the names are.
func TestNoProgram(t *testing.T) {
	for s, e := range map[string]api.Errno{
		"x = @;": api.ErrSyntax, "x = a@": api.ErrSyntax, "secret a, a; out o = b@": api.ErrSyntax, "x = a @? b;": api.ErrSyntax, "for i in 0 .. 1 { @out o = i; }": api.ErrSyntax, "x = f(@);": api.ErrSyntax, "x = a; y = @0x;": api.ErrSyntax,
		"fn f(@) = 1;": api.ErrSyntax, "x = a; secret @for;": api.ErrSyntax, "@}": api.ErrSyntax, "x = a;@;": api.ErrSyntax, "x = a; @" + strings.Repeat("n", 33) + " = 1;": api.ErrSyntax,
		"x = a; y = @4294967296;": api.ErrResource, "x = " + strings.Repeat("(", 61) + "@a": api.ErrResource, "@x = a;" + strings.Repeat(" ", 20000): api.ErrResource, strings.Repeat("x=a;", 1000) + "@": api.ErrResource,
	} {
		ahead, behind, _ := strings.Cut(s, mark)
		refused(t, ahead+behind, len(ahead), e)
	}
}
