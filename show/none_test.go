package show_test

import (
	"fmt"
	"slices"
	"strings"
	"testing"

	"bauta/api"
	"bauta/parse"
	"bauta/show"
)

// The bounds, as the document writes them.
const (
	mostNodes  = 3000
	mostLevels = 300
	mostBytes  = 20000
	mostTokens = 4000
	mostDeep   = 60
)

// noProgram looks that n has no text as a program.
func noProgram(t *testing.T, n api.Node) {
	t.Helper()
	if s, err := show.Program(n); s != "" || err != api.ErrArg {
		t.Errorf("Program of %s: %.300q, %v", tell(n), s, err)
	}
}

// noExpr looks that n has no text as an expression, nor has what it is in.
func noExpr(t *testing.T, n api.Node) {
	t.Helper()
	a := name("a")
	for _, x := range []api.Node{n, un("~", n), bin("+", n, a), bin("<<", a, n), call("f", n), call("f", a, n, a), un("-", call("f", bin("^", a, n)))} {
		if s, err := show.Expr(x); s != "" || err != api.ErrArg {
			t.Errorf("Expr of %s: %.300q, %v", tell(x), s, err)
		}
		for _, k := range []int{8, 9, 10} {
			noProgram(t, program(set(k, "o", x)))
		}
		noProgram(t, program(function("f", x, "a")))
		noProgram(t, program(loop("i", x, a)))
		noProgram(t, program(loop("i", a, x)))
		noProgram(t, program(loop("i", a, a, set(10, "x", a), set(10, "y", x))))
	}
}

// noStatement looks that no program has a text in which n is a statement.
func noStatement(t *testing.T, n api.Node) {
	t.Helper()
	x := set(10, "x", name("a"))
	noProgram(t, program(n))
	noProgram(t, program(n, x))
	noProgram(t, program(x, n))
	noProgram(t, program(x, n, x))
	noInner(t, n)
}

// noInner looks that no program has a text in which n is a statement of a loop.
func noInner(t *testing.T, n api.Node) {
	t.Helper()
	a, x := name("a"), set(10, "x", num(1))
	noProgram(t, program(loop("i", a, a, n)))
	noProgram(t, program(x, loop("i", a, a, x, n, x)))
	noProgram(t, program(loop("i", a, a, loop("j", a, a, n))))
}

// kinds are all kinds, and numbers that are none.
func kinds() []int {
	return []int{0, 1, 2, 3, 4, 5, 6, 7, 8, 9, 10, 11, 12, 13, 14, 15, -1, -2, 16, 1 << 32, -1 << 63}
}

// whole are trees of each kind that have a text in their place.
func whole() []api.Node {
	a := name("a")
	return []api.Node{
		num(1), a, un("~", a), bin("+", a, a), bin("<<", a, a), call("f", a), inputs(6, "a"), inputs(7, "a"), set(8, "a", a), set(9, "a", a), set(10, "a", a), loop("i", a, a), function("f", a, "a"), program(),
		set(14, "a", a), set(-1, "a", a), inputs(15, "a"),
	}
}

// P11.2, P11.3: each kind in each place: some are expressions, some are statements, some of them may stand in a loop, one is a program.
func TestKindsInPlaces(t *testing.T) {
	for k, n := range whole() {
		if k <= 5 {
			if s, err := show.Expr(n); s == "" || err != api.OK {
				t.Errorf("Expr of %s: %q, %v", tell(n), s, err)
			}
			noStatement(t, n)
		} else {
			noExpr(t, n)
		}
		if k >= 6 && k <= 12 {
			if s, err := show.Program(program(n)); s == "" || err != api.OK {
				t.Errorf("Program of %s: %q, %v", tell(program(n)), s, err)
			}
		}
		switch {
		case k == 10 || k == 11:
			if s, err := show.Program(program(loop("i", num(1), num(2), n))); s == "" || err != api.OK {
				t.Errorf("Program of a loop of %s: %q, %v", tell(n), s, err)
			}
		case k > 12:
			noStatement(t, n)
		default:
			noInner(t, n)
		}
		if k != 13 {
			noProgram(t, n)
		}
	}
	for _, k := range kinds() {
		x := set(10, "x", name("a"))
		if k != 13 {
			noProgram(t, api.Node{K: k})
			noProgram(t, api.Node{K: k, L: list(x, x)})
			noProgram(t, api.Node{K: k, S: "x", L: list(num(1), num(2), x)})
		}
		if k != 0 {
			noExpr(t, api.Node{K: k})
		}
	}
}

// P11.2, P11.3: parts too few or too many.
func TestPartsTooFewOrTooMany(t *testing.T) {
	a, x := name("a"), set(10, "x", num(1))
	noExpr(t, api.Node{K: 0, L: list(a)})
	noExpr(t, api.Node{K: 1, S: "a", L: list(a)})
	noExpr(t, api.Node{K: 1, S: "f", L: list(a, a)})
	noExpr(t, api.Node{K: 2, S: "~"})
	noExpr(t, api.Node{K: 2, S: "~", L: list(a, a)})
	noExpr(t, api.Node{K: 2, S: "-", L: list(a, a)})
	for _, s := range signs() {
		n := bin(s, a, a)
		for _, many := range []int{0, 1, 3, 4} {
			n.L = slices.Repeat(list(a), many)
			noExpr(t, n)
		}
	}
	noExpr(t, call("f"))
	noExpr(t, call("sel"))
	for _, k := range []int{6, 7} {
		noStatement(t, inputs(k))
		noStatement(t, api.Node{K: k, P: []string{"a"}, L: list(a)})
		noStatement(t, api.Node{K: k, L: list(a)})
	}
	for _, k := range []int{8, 9, 10} {
		noStatement(t, api.Node{K: k, S: "x"})
		noStatement(t, api.Node{K: k, S: "x", L: list(a, a)})
		noStatement(t, api.Node{K: k, S: "x", L: list(a, x)})
	}
	noStatement(t, api.Node{K: 12, S: "f", P: []string{"a"}})
	noStatement(t, api.Node{K: 12, S: "f", P: []string{"a"}, L: list(a, a)})
	noStatement(t, function("f", a))
	noStatement(t, loop("i"))
	noStatement(t, loop("i", a))
	noStatement(t, loop("i", a, a, a))
	noStatement(t, loop("i", a, x, x))
	noStatement(t, loop("i", x, a))
}

// wrongNames are texts that are no names.
func wrongNames() []string {
	return []string{
		"", " ", "a ", " a", "a b", "1", "1a", "_", "_a", "a-b", "a,b", "a, b", "~a", "(a)", "f(a)", "a;", "a\n", "a\x00", "ä", "aé", "\xff", "a//b", "a //", "a;b", "a = b; c", "a+b", ".",
		"secret", "public", "out", "show", "for", "in", "fn", strings.Repeat("n", 33), strings.Repeat("a", mostBytes), strings.Repeat("a", mostBytes+1), strings.Repeat(" ", mostBytes) + "a",
	}
}

// P11.2, P11.3: names that are none, or words of the language.
func TestWrongNames(t *testing.T) {
	a, x := name("a"), set(10, "x", num(1))
	for _, s := range wrongNames() {
		noExpr(t, name(s))
		noExpr(t, call(s, a))
		noExpr(t, call(s, num(1), num(2)))
		for _, k := range []int{6, 7} {
			noStatement(t, inputs(k, s))
			noStatement(t, inputs(k, s, "a"))
			noStatement(t, inputs(k, "a", s))
			noStatement(t, inputs(k, "a", s, "b"))
		}
		for _, k := range []int{8, 9, 10} {
			noStatement(t, set(k, s, a))
		}
		noStatement(t, function(s, a, "a"))
		noStatement(t, function("f", a, s))
		noStatement(t, function("f", a, "a", s))
		noStatement(t, function("f", a, s, "a"))
		noStatement(t, loop(s, a, a))
		noStatement(t, loop(s, a, a, x))
	}
}

// P11.2: signs that are none, or of another kind.
func TestWrongSigns(t *testing.T) {
	a, b := name("a"), name("b")
	for _, s := range []string{"", " ", "a", "+ ", "++", "*", "/", "%", "!", "<", ">", ">>>", "=", "==", "..", ",", ";", "(", ")", "{", "&&", "||", "^~", "-~", "+-", "+ 1 +", "//", "\n", "in"} {
		noExpr(t, un(s, a))
		noExpr(t, api.Node{K: 3, S: s, L: list(a, b)})
		noExpr(t, api.Node{K: 4, S: s, L: list(a, b)})
	}
	for _, s := range signs() {
		n := bin(s, a, b)
		n.K = 7 - n.K
		noExpr(t, n)
		if s != "-" {
			noExpr(t, un(s, a))
		}
		noExpr(t, un(s+s, a))
	}
	noExpr(t, bin("~", a, b))
	noExpr(t, un("~~", a))
	noExpr(t, un("~a + ", b))
}

// P11.2, P11.3: names, numbers or texts where the kind has none.
func TestWhatKindsDoNotHave(t *testing.T) {
	a := name("a")
	for _, n := range whole()[:14] {
		var wrong []api.Node
		if n.K != 0 {
			m := copied(n)
			m.N = 1
			wrong = append(wrong, m)
			m.N = 1 << 31
			wrong = append(wrong, m)
		}
		if n.K == 0 || n.K == 6 || n.K == 7 || n.K == 13 {
			m := copied(n)
			m.S = "a"
			wrong = append(wrong, m)
			m.S = " "
			wrong = append(wrong, m)
		}
		if n.K != 6 && n.K != 7 && n.K != 12 {
			m := copied(n)
			m.P = []string{"a"}
			wrong = append(wrong, m)
			m.P = []string{""}
			wrong = append(wrong, m)
		}
		for _, m := range wrong {
			noExpr(t, m)
			noStatement(t, m)
			noProgram(t, m)
			noStatement(t, set(10, "x", bin("+", a, m)))
		}
	}
	noExpr(t, api.Node{K: 0, S: "1", N: 1})
	noExpr(t, api.Node{K: 0, S: "1"})
	noExpr(t, api.Node{K: 1, N: 1})
	noProgram(t, api.Node{K: 13, N: 1})
	noProgram(t, api.Node{K: 13, S: "x = 1;"})
}

// P11.3: Expr of what is no expression, Program of what is no program.
func TestOfTheOtherKind(t *testing.T) {
	for _, s := range []string{"", "x = 1;", "secret a;", "for i in 0 .. 1 { }", "fn f(a) = a;"} {
		n, _, err := parse.Parse(s)
		if err != api.OK {
			t.Fatalf("Parse(%q): %v", s, err)
		}
		noExpr(t, n)
		for _, part := range n.L {
			noExpr(t, part)
			noProgram(t, part)
		}
		noStatement(t, n)
	}
	for _, s := range []string{"0", "a", "~a", "a + b", "a << 1", "f(a)"} {
		n, _, err := parse.Expr(s)
		if err != api.OK {
			t.Fatalf("parse.Expr(%q): %v", s, err)
		}
		noProgram(t, n)
		noStatement(t, n)
	}
}

// shown looks that n has a text, that of the plain account, or that it has none: as a program, if it is of that kind, else as an expression.
func shown(t *testing.T, n api.Node, is bool) {
	t.Helper()
	s, err := show.Program(n)
	if n.K != 13 {
		s, err = show.Expr(n)
	}
	if want := plain(n); is && (s != want || err != api.OK) || !is && (s != "" || err != api.ErrArg) {
		t.Errorf("of %s: %d bytes, %v, not %v", tell(n), len(s), err, is)
	}
}

// pairs is a call of so many sums: no other tree of so many nodes has fewer tokens, the end among them.
func pairs(many int) (n api.Node, nodes, tokens int) {
	return call("f", slices.Repeat(list(bin("+", name("a"), name("b"))), many)...), 3*many + 1, 4*many + 3
}

// P11.3: as many nodes as a text can have, and as many as the bound, beyond which there is none.
func TestMostNodes(t *testing.T) {
	n, nodes, tokens := pairs(999)
	if parse.Count(n) != nodes || nodes != mostNodes-2 || tokens != mostTokens-1 {
		t.Fatalf("%d nodes, %d tokens", nodes, tokens)
	}
	shown(t, n, true)
	n, nodes, _ = pairs(998)
	shown(t, bin("-", n, name("c")), true)
	shown(t, program(set(10, "x", n)), true)
	for more := range 10 {
		// Each part more is two tokens more.
		m := n
		m.L = append(slices.Clone(n.L), slices.Repeat(list(name("c")), more)...)
		shown(t, m, more <= 2)
		l := program(slices.Repeat(list(inputs(6, "a")), nodes+more-1)...)
		shown(t, l, false)
		if parse.Count(m) != nodes+more || parse.Count(l) != nodes+more {
			t.Fatalf("%d and %d nodes, not %d", parse.Count(m), parse.Count(l), nodes+more)
		}
	}
	for _, many := range []int{mostNodes - 1, mostNodes, mostNodes + 1, 1 << 16, 1 << 20} {
		noExpr(t, call("f", make([]api.Node, many-1)...))
		noProgram(t, program(make([]api.Node, many-1)...))
		noProgram(t, program(slices.Repeat(list(loop("i", num(0), num(1))), many/3)...))
	}
	// What is in itself has no end.
	self := list(name("a"))
	self[0] = un("~", self[0])
	self[0].L = self
	noExpr(t, self[0])
	// Doubled again and again, it is more than can be counted.
	twice := name("a")
	for range 200 {
		twice = bin("&", twice, twice)
	}
	noExpr(t, twice)
	noProgram(t, twice)
}

// way is a way to go one level deeper, and how many levels an expression has by it that is in so many others less than may be.
type way struct {
	deeper func(api.Node) api.Node
	most   func(left int) int
}

func ways() []way {
	// A sum that stands alone is in no brackets, its operands are in those of one more; what is behind ~ is one deeper, in brackets two.
	sums := func(left int) int { return left + 2 }
	calls := func(left int) int { return left + 1 }
	ahead := func(left int) int { return (left+1)/2 + 1 }
	return []way{
		{func(n api.Node) api.Node { return bin("+", n, num(1)) }, sums},
		{func(n api.Node) api.Node { return bin("<<<", num(1), n) }, sums},
		{func(n api.Node) api.Node { return call("f", n) }, calls},
		{func(n api.Node) api.Node { return call("f", num(1), n) }, calls},
		{func(n api.Node) api.Node { return un("~", n) }, ahead},
		{func(n api.Node) api.Node { return un("-", n) }, ahead},
	}
}

// chain is an expression of so many levels.
func chain(levels int, deeper func(api.Node) api.Node) api.Node {
	n := name("a")
	for range levels - 1 {
		n = deeper(n)
	}
	return n
}

// inLoops is n in so many loops.
func inLoops(loops int, n api.Node) api.Node {
	for range loops {
		n = loop("i", num(0), num(1), n)
	}
	return n
}

// P11.3: expressions of each number of levels, up to the bound and beyond: they have a text as long as that is not too deep, in loops too.
func TestMostLevels(t *testing.T) {
	for _, w := range ways() {
		for levels := 1; levels <= mostLevels+3; levels++ {
			n := chain(levels, w.deeper)
			shown(t, n, levels <= w.most(mostDeep))
			shown(t, program(set(10, "x", n)), levels <= w.most(mostDeep))
		}
		noExpr(t, chain(w.most(mostDeep)+1, w.deeper))
		for loops := range mostDeep + 1 {
			most := w.most(mostDeep - loops)
			for _, levels := range []int{1, most, most + 1} {
				n := chain(levels, w.deeper)
				shown(t, program(inLoops(loops, set(10, "x", n))), levels <= most)
				shown(t, program(inLoops(loops, loop("i", n, num(1)))), levels <= most)
				shown(t, program(inLoops(loops, loop("i", num(1), n))), levels <= most)
			}
		}
	}
	for _, levels := range []int{mostLevels - 1, mostLevels, mostLevels + 1, 1000, 1 << 16} {
		noExpr(t, chain(levels, func(n api.Node) api.Node { return call("f", n) }))
		noProgram(t, program(chain(levels, func(n api.Node) api.Node { return inLoops(1, n) })))
		noProgram(t, chain(levels, func(n api.Node) api.Node { return program(n) }))
	}
}

// P11.3: loops in loops: as many as may be, and more.
func TestLoopsInLoops(t *testing.T) {
	n := loop("i", bin("+", name("a"), num(1)), num(2))
	want := "for i in a + 1 .. 2 { }"
	for k := 1; k <= mostDeep+1; k++ {
		shows(t, program(n, n), want+"\n"+want+"\n")
		n = inLoops(1, n)
		want = "for i in 0 .. 1 { " + want + " }"
	}
	for range mostLevels {
		noProgram(t, program(n))
		n = inLoops(1, n)
	}
}

// pieces are lengths, each from least to most, that make so much in all.
func pieces(long, least, most int) []int {
	var l []int
	for long > 0 {
		this := min(long, most)
		if rest := long - this; 0 < rest && rest < least {
			this -= least
		}
		l = append(l, this)
		long -= this
	}
	return l
}

// assignments are statements whose texts, with one byte behind each, are so long.
func assignments(long int) []api.Node {
	var l []api.Node
	rest := len(" = 1;\n")
	for _, this := range pieces(long, rest+1, rest+32) {
		l = append(l, set(10, strings.Repeat("x", this-rest), num(1)))
	}
	return l
}

// namesOf are names whose texts, with a comma and a blank behind each, are so long.
func namesOf(long int) []string {
	var l []string
	for _, this := range pieces(long, 3, 34) {
		l = append(l, strings.Repeat("n", this-2))
	}
	return l
}

// P11.3: texts of as many bytes as a program has, and of one more; and far more.
func TestMostBytes(t *testing.T) {
	for long := mostBytes - 3; long <= mostBytes+3; long++ {
		var parts []api.Node
		for _, s := range namesOf(long - len("x = f();\n") + 2) {
			parts = append(parts, name(s))
		}
		for _, n := range []api.Node{
			program(assignments(long)...),
			program(loop("i", append(list(num(0), num(1)), assignments(long-len("for i in 0 .. 1 { }\n"))...)...)),
			program(inputs(7, namesOf(long-len("public ;\n")+2)...)),
			program(function("f", num(1), namesOf(long-len("fn f() = 1;\n")+2)...)),
			program(set(10, "x", call("f", parts...))),
		} {
			if got := len(plain(n)); got != long {
				t.Fatalf("%d bytes, not %d, of %s", got, long, tell(n))
			}
			shown(t, n, long <= mostBytes)
		}
		parts = nil
		for _, s := range namesOf(long - len("f()") + 2) {
			parts = append(parts, name(s))
		}
		shown(t, call("f", parts...), long <= mostBytes)
	}
	huge := strings.Repeat("n", 1<<20)
	noExpr(t, name(huge))
	noExpr(t, call("f", slices.Repeat(list(name(huge)), 1000)...))
	noStatement(t, inputs(6, slices.Repeat([]string{huge}, 1000)...))
	noStatement(t, function("f", num(1), slices.Repeat([]string{huge}, 1000)...))
	noProgram(t, program(slices.Repeat(list(set(10, huge, num(1))), 1000)...))
	noStatement(t, inputs(7, make([]string, 1<<20)...))
}

// P11.3: texts of as many tokens as a program has, the end among them, and of more.
func TestMostTokens(t *testing.T) {
	for tokens := mostTokens - 6; tokens <= mostTokens+6; tokens++ {
		left := tokens - 1
		n := program()
		for left%4 != 0 {
			n.L = append(n.L, inputs(6, "a"))
			left -= 3
		}
		n.L = append(n.L, slices.Repeat(list(set(10, "x", num(1))), left/4)...)
		shown(t, n, tokens <= mostTokens)
	}
	for many := mostTokens/2 - 5; many <= mostTokens/2+2; many++ {
		// Commas are one less than parts; there are three tokens, and the end, beside.
		is := many+many-1+4 <= mostTokens
		shown(t, call("f", slices.Repeat(list(num(7)), many)...), is)
		shown(t, program(inputs(7, slices.Repeat([]string{"p"}, many)...)), many+many-1+3 <= mostTokens)
	}
}

// spare is n with room to spare behind each of its lists, in which something stands.
func spare(n api.Node) api.Node {
	l := append(append([]api.Node{}, n.L...), name("spare"), num(9))
	p := append(append([]string{}, n.P...), "spare", "room")
	n.L, n.P = l[:len(n.L)], p[:len(n.P)]
	for k := range n.L {
		n.L[k] = spare(n.L[k])
	}
	return n
}

// all is all that a tree is, places and room to spare too.
func all(n api.Node) string {
	s := fmt.Sprintf("%d %q %d %d %q [", n.K, n.S, n.N, n.At, n.P[:cap(n.P)])
	for _, part := range n.L {
		s += all(part) + ","
	}
	return s + fmt.Sprintf("%+v]", n.L[len(n.L):cap(n.L)])
}

// P11.1 to P11.3: no tree that is handed in is changed, whether it has a text or not.
func TestNothingIsChanged(t *testing.T) {
	l := append(samples(), whole()...)
	for _, n := range whole() {
		l = append(l, program(n), program(loop("i", num(1), num(2), n)), un("~", n), call("f", n, n))
	}
	for _, n := range l {
		n = spare(placed(n, 3))
		ahead := all(n)
		show.Program(n)
		show.Expr(n)
		show.Same(n, n)
		show.Same(n, copied(n))
		show.Same(program(), n)
		if all(n) != ahead {
			t.Errorf("%s was changed", tell(n))
		}
	}
}
