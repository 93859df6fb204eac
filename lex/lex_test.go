package lex_test

import (
	"fmt"
	"slices"
	"strings"
	"testing"

	"bauta/api"
	"bauta/lex"
)

// The bounds, as the document writes them.
const (
	mostBytes  = 20000
	mostTokens = 4000
	mostName   = 32
)

const (
	letters = "ABCDEFGHIJKLMNOPQRSTUVWXYZabcdefghijklmnopqrstuvwxyz"
	digits  = "0123456789"
)

// words and signs are all of the language, as the document lists them.
func words() []string {
	return []string{"secret", "public", "out", "show", "for", "in", "fn"}
}

func signs() []string {
	return []string{"<<<", "<<", ">>", "..", "=", ";", ",", "(", ")", "{", "}", "+", "-", "&", "|", "^", "~"}
}

func end(at int) api.Token             { return api.Token{K: api.TokEnd, At: at} }
func name(s string, at int) api.Token  { return api.Token{K: api.TokName, S: s, At: at} }
func num(s string, at int) api.Token   { return api.Token{K: api.TokNum, S: s, At: at} }
func keyed(s string, at int) api.Token { return api.Token{K: api.TokWord, S: s, At: at} }
func sign(s string, at int) api.Token  { return api.Token{K: api.TokSign, S: s, At: at} }

// begun is how a list of tokens begins, to be told of.
func begun(l []api.Token) string {
	return fmt.Sprintf("%d tokens %+v", len(l), l[:min(len(l), 8)])
}

// are looks that the tokens of s are just those.
func are(t *testing.T, s string, want ...api.Token) {
	t.Helper()
	l, at, e := lex.Words(s)
	if !slices.Equal(l, want) || at != 0 || e != api.OK {
		t.Errorf("Words(%.60q) = %s, %d, %v, not %s, 0", s, begun(l), at, e, begun(want))
	}
}

// refused looks that s has no tokens, but that error, there.
func refused(t *testing.T, s string, at int, err api.Errno) {
	t.Helper()
	l, place, e := lex.Words(s)
	if len(l) != 0 || place != at || e != err {
		t.Errorf("Words(%.60q) = %d tokens, %d, %v, not 0, %d, %v", s, len(l), place, e, at, err)
	}
}

// one is the text of a byte.
func one(c int) string {
	return string([]byte{byte(c)})
}

// P9.1: the words of the language, and what is almost one.
func TestWord(t *testing.T) {
	for _, w := range words() {
		if !lex.Word(w) {
			t.Errorf("Word(%q) is false", w)
		}
		for _, s := range almost(w) {
			if lex.Word(s) {
				t.Errorf("Word(%q) is true", s)
			}
		}
		for _, other := range words() {
			if lex.Word(w + other) {
				t.Errorf("Word(%q) is true", w+other)
			}
		}
	}
	for _, s := range []string{"", " ", "let", "if", "sel", "end", "main", "0", "_", ";", "secret;", "for in"} {
		if lex.Word(s) {
			t.Errorf("Word(%q) is true", s)
		}
	}
}

// almost is w with a byte more at each place, with one fewer, with one changed, and in capital letters.
func almost(w string) []string {
	l := []string{strings.ToUpper(w)}
	for k := range len(w) + 1 {
		for c := range 256 {
			l = append(l, w[:k]+one(c)+w[k:])
			if k < len(w) && byte(c) != w[k] {
				l = append(l, w[:k]+one(c)+w[k+1:])
			}
		}
		if k < len(w) {
			l = append(l, w[:k]+w[k+1:])
		}
	}
	// By one byte in becomes fn, and fn in.
	return slices.DeleteFunc(l, func(s string) bool { return slices.Contains(words(), s) })
}

// P9.1: a letter begins a name; letters, digits and _ follow.
func TestNameByBytes(t *testing.T) {
	if lex.Name("") {
		t.Error("the empty text is a name")
	}
	for c := range 256 {
		begins := strings.IndexByte(letters, byte(c)) >= 0
		if lex.Name(one(c)) != begins {
			t.Errorf("Name(%q) is %v", one(c), !begins)
		}
		if got := lex.Name(one(c) + "x_1"); got != begins {
			t.Errorf("Name(%q) is %v", one(c)+"x_1", got)
		}
		follows := strings.IndexByte(letters+digits+"_", byte(c)) >= 0
		for _, first := range letters {
			for _, rest := range []string{"", "z", "_9"} {
				s := string(first) + one(c) + rest
				if got := lex.Name(s); got != (follows && !slices.Contains(words(), s)) {
					t.Errorf("Name(%q) is %v", s, got)
				}
			}
		}
	}
	for _, s := range []string{"é", "aé", "a b", " a", "a ", "a;", "\ufeffa", "a\x00", "１", "a１", "0x1", "_a", "a-b"} {
		if lex.Name(s) {
			t.Errorf("Name(%q) is true", s)
		}
	}
}

// P9.1: a name has 32 bytes at most, and is no word of the language.
func TestNameByLength(t *testing.T) {
	for n := 1; n <= 100; n++ {
		for _, s := range []string{strings.Repeat("a", n), "Z" + strings.Repeat("_", n-1), "q" + strings.Repeat("7", n-1)} {
			if got := lex.Name(s); got != (n <= mostName) {
				t.Errorf("Name(%q), of %d bytes, is %v", s, n, got)
			}
		}
	}
	for _, w := range words() {
		if lex.Name(w) {
			t.Errorf("Name(%q) is true", w)
		}
		for _, s := range []string{strings.ToUpper(w), w + "s", w + "_", w + "1", "x" + w, w + w} {
			if !lex.Name(s) {
				t.Errorf("Name(%q) is false", s)
			}
		}
	}
	if lex.Name(strings.Repeat("a", 1<<20)) {
		t.Error("2^20 bytes are a name")
	}
}

// P9.2: what is passed over: blanks, tabs, line feeds, and // up to the line's end.
func TestPassedOver(t *testing.T) {
	for _, s := range []string{
		"", " ", "\t", "\n", " \t\n", "\n\n\n", "   ", "\t\t",
		"//", "//\n", "// what", "// what\n", "///", "////\n//", "//a\n//b\n", "//a\n//b", " //a\n\t//b\n ",
		"// a // b", "//\x00\xff\r?é secret \"", "// " + strings.Repeat("?", 500), strings.Repeat("// ;\n", 500),
		strings.Repeat("\n", mostBytes-2), strings.Repeat("/", mostBytes-2),
	} {
		are(t, s, end(len(s)))
		are(t, s+"\na", name("a", len(s)+1), end(len(s)+2))
		are(t, "a"+s, name("a", 0), end(len(s)+1))
	}
	are(t, "a//b;\nc", name("a", 0), name("c", 6), end(7))
	are(t, "1// 2\n// 3\n\n4 // 5", num("1", 0), num("4", 12), end(18))
	are(t, "a//\nb", name("a", 0), name("b", 4), end(5))
	are(t, "a b\tc\nd", name("a", 0), name("b", 2), name("c", 4), name("d", 6), end(7))
	// A remark ends with a line feed alone.
	are(t, "//\ra", end(4))
}

// P9.2: one / begins nothing.
func TestOneStroke(t *testing.T) {
	for s, at := range map[string]int{
		"/": 0, "/a": 0, " /": 1, "a/b": 1, "a / b": 2, "/ /": 0, "/\n/": 0, "/*a*/": 0, "a/\n/b": 1, "//a\n/": 4, "//a\n/b//": 4, "1/2": 1, "a;/": 2,
	} {
		refused(t, s, at, api.ErrSyntax)
	}
}

// P9.2: each sign alone, and each two, one behind the other; only those of < run together.
func TestSigns(t *testing.T) {
	for _, a := range signs() {
		are(t, a, sign(a, 0), end(len(a)))
		are(t, "x"+a+"1", name("x", 0), sign(a, 1), num("1", 1+len(a)), end(2+len(a)))
		for _, b := range signs() {
			for _, between := range []string{" ", "\t", "\n", "//\n"} {
				s := a + between + b
				are(t, s, sign(a, 0), sign(b, len(s)-len(b)), end(len(s)))
			}
			switch {
			case a == "<<" && b == "<<":
				refused(t, a+b, 3, api.ErrSyntax)
			case a == "<<" && b == "<<<":
				are(t, a+b, sign("<<<", 0), sign("<<", 3), end(5))
			default:
				are(t, a+b, sign(a, 0), sign(b, len(a)), end(len(a+b)))
			}
		}
	}
}

// P9.2: the longest sign is taken, and what begins a sign alone is none.
func TestLongestSign(t *testing.T) {
	are(t, "<<<<<", sign("<<<", 0), sign("<<", 3), end(5))
	are(t, "<<<<<<", sign("<<<", 0), sign("<<<", 3), end(6))
	are(t, "....", sign("..", 0), sign("..", 2), end(4))
	are(t, ">>>>", sign(">>", 0), sign(">>", 2), end(4))
	are(t, "==", sign("=", 0), sign("=", 1), end(2))
	are(t, "a<<<3;", name("a", 0), sign("<<<", 1), num("3", 4), sign(";", 5), end(6))
	are(t, "a<<b>>1", name("a", 0), sign("<<", 1), name("b", 3), sign(">>", 4), num("1", 6), end(7))
	are(t, "0..2", num("0", 0), sign("..", 1), num("2", 3), end(4))
	for s, at := range map[string]int{
		"<": 0, "<<<<": 3, "<<<<<<<": 6, "< <": 0, "<< <": 3, "<=": 0, "<>": 0, "><": 0, "a<b": 1, "<\n<": 0, "<//\n<": 0,
		">": 0, ">>>": 2, "> >": 0, ">=": 0, "a>b": 1, "<<>": 2,
		".": 0, "...": 2, ". .": 0, "1.5": 1, "a.b": 1, "0...2": 3, ".=": 0, "..;.": 3,
	} {
		refused(t, s, at, api.ErrSyntax)
	}
}

// P9.2: a letter takes all letters, digits and _ behind it: a word of the language, a name, or what is too long for one.
func TestRunsOfLetters(t *testing.T) {
	for _, w := range words() {
		are(t, w, keyed(w, 0), end(len(w)))
		are(t, w+";"+w, keyed(w, 0), sign(";", len(w)), keyed(w, len(w)+1), end(2*len(w)+1))
		for _, s := range []string{w + "x", w + "1", w + "_", "x" + w, w[:len(w)-1] + "z", strings.ToUpper(w), w + w} {
			are(t, s, name(s, 0), end(len(s)))
		}
	}
	for n := 1; n <= mostName; n++ {
		s := strings.Repeat("n", n)
		are(t, " "+s+" "+s, name(s, 1), name(s, n+2), end(2*n+2))
	}
	for _, n := range []int{33, 34, 64, 65, 256, 288, mostBytes - 3} {
		s := "n" + strings.Repeat("_0N", n)[:n-1]
		refused(t, s, 0, api.ErrSyntax)
		refused(t, s+";", 0, api.ErrSyntax)
		refused(t, "a;"+s+";", 2, api.ErrSyntax)
		// A remark may have them.
		are(t, "//"+s, end(n+2))
	}
	// A word of the language that goes on too far is none.
	refused(t, "  secret"+strings.Repeat("_", 27), 2, api.ErrSyntax)
	are(t, "secret"+strings.Repeat("_", 26), name("secret"+strings.Repeat("_", 26), 0), end(32))
}

// P9.2: a digit takes all letters and digits behind it, whatever they are; _ is not among them, and has no bound of length.
func TestRunsOfDigits(t *testing.T) {
	for _, s := range []string{
		"0", "7", "42", "007", "0x", "0xfF", "1x", "3abc", "9Z9", "0secret", "1in", "4294967296", "1e5",
		strings.Repeat("9", 32), strings.Repeat("9", 33), "0" + strings.Repeat("x", 500), strings.Repeat("1", mostBytes-2),
	} {
		are(t, s, num(s, 0), end(len(s)))
		are(t, s+";", num(s, 0), sign(";", len(s)), end(len(s)+1))
		refused(t, s+"_", len(s), api.ErrSyntax)
		refused(t, s+"_1", len(s), api.ErrSyntax)
	}
	are(t, "1 a", num("1", 0), name("a", 2), end(3))
	are(t, "a1 1a", name("a1", 0), num("1a", 3), end(5))
	are(t, "-1", sign("-", 0), num("1", 1), end(2))
}

// begin is all bytes that begin a token, or are passed over, alone.
const begin = letters + digits + "=;,(){}+-&|^~ \t\n"

// P9.2: each byte that begins no token, at first and behind tokens, what follows being of no matter.
func TestBytesThatBeginNothing(t *testing.T) {
	for c := range 256 {
		if strings.IndexByte(begin, byte(c)) >= 0 {
			if l, at, e := lex.Words(one(c)); len(l) == 0 || at != 0 || e != api.OK {
				t.Errorf("Words(%q) = %v, %d, %v", one(c), l, at, e)
			}
			continue
		}
		for _, x := range []struct {
			ahead string
			at    int
		}{{"", 0}, {" ", 1}, {"\n\t ", 3}, {";", 1}, {"1", 1}, {"a ", 2}, {"out o = 1;", 10}, {"// what\n", 8}, {"a<<<", 4}} {
			refused(t, x.ahead+one(c), x.at, api.ErrSyntax)
			refused(t, x.ahead+one(c)+" b", x.at, api.ErrSyntax)
			refused(t, x.ahead+one(c)+"?", x.at, api.ErrSyntax)
		}
		// Behind a letter _ is no error.
		if c != '_' {
			refused(t, "a"+one(c)+";", 1, api.ErrSyntax)
			refused(t, "fn"+one(c), 2, api.ErrSyntax)
		}
	}
	for s, at := range map[string]int{
		"\r\n": 0, "a;\r\n": 2, "\ufeffa": 0, "é": 0, "aé": 1, "１": 0, "\u00a0": 0, "a\v": 1, "\f": 0, "\"a\"": 0, "a*b": 1, "a[0]": 1, "_": 0, "_a": 0, "a % b": 2, "#": 0, "!a": 0, "a:b": 1, "@": 0, "`": 0, "\\": 0, "\x7f": 0,
	} {
		refused(t, s, at, api.ErrSyntax)
	}
}

// P9.2: a program's tokens, each with its kind, its text, its place.
func TestProgram(t *testing.T) {
	are(t, "secret a, b_2;\n// both\nfn f(x) = ~x <<< 0x1F;\nfor i in 0..2 {\n\tt=f(a)&b_2;}\nshow o = t|3;\n",
		keyed("secret", 0), name("a", 7), sign(",", 8), name("b_2", 10), sign(";", 13),
		keyed("fn", 23), name("f", 26), sign("(", 27), name("x", 28), sign(")", 29), sign("=", 31), sign("~", 33), name("x", 34), sign("<<<", 36), num("0x1F", 40), sign(";", 44),
		keyed("for", 46), name("i", 50), keyed("in", 52), num("0", 55), sign("..", 56), num("2", 58), sign("{", 60),
		name("t", 63), sign("=", 64), name("f", 65), sign("(", 66), name("a", 67), sign(")", 68), sign("&", 69), name("b_2", 70), sign(";", 73), sign("}", 74),
		keyed("show", 76), name("o", 81), sign("=", 83), name("t", 85), sign("|", 86), num("3", 87), sign(";", 88),
		end(90))
	are(t, "public p;out o=p", keyed("public", 0), name("p", 7), sign(";", 8), keyed("out", 9), name("o", 13), sign("=", 14), name("p", 15), end(16))
}

// P9.2: 20000 bytes may be, 20001 not, whatever they are, and whatever else is wrong with them.
func TestMostBytes(t *testing.T) {
	are(t, strings.Repeat(" ", mostBytes), end(mostBytes))
	are(t, strings.Repeat(" ", mostBytes-1)+"a", name("a", mostBytes-1), end(mostBytes))
	are(t, strings.Repeat("0", mostBytes), num(strings.Repeat("0", mostBytes), 0), end(mostBytes))
	refused(t, strings.Repeat(" ", mostBytes-1)+"?", mostBytes-1, api.ErrSyntax)
	for _, n := range []int{mostBytes + 1, mostBytes + 2, 2 * mostBytes, 1 << 20} {
		for _, c := range []string{" ", "\n", "/", "0", "a", ";", "?", "_", "\xff"} {
			refused(t, strings.Repeat(c, n), 0, api.ErrResource)
			refused(t, "?"+strings.Repeat(c, n-1), 0, api.ErrResource)
			refused(t, strings.Repeat(c, n-1)+"?", 0, api.ErrResource)
		}
	}
}

// P9.2: 3999 tokens may be ahead of the end; of more, the first too many is told, which may be the end.
func TestMostTokens(t *testing.T) {
	for _, x := range []string{";", "; ", "\n;", "a ", "1\t", "<<<", "for\n", ";//\n"} {
		l, at, e := lex.Words(strings.Repeat(x, mostTokens-1))
		if len(l) != mostTokens || at != 0 || e != api.OK || l[mostTokens-1] != end((mostTokens-1)*len(x)) {
			t.Errorf("%d times %q: %d tokens, %d, %v", mostTokens-1, x, len(l), at, e)
		}
		many := strings.Repeat(x, mostTokens)
		refused(t, many, len(many), api.ErrResource)
		refused(t, many+" \t\n ", len(many)+4, api.ErrResource)
		refused(t, many+"//?", len(many)+3, api.ErrResource)
		refused(t, many+" out", len(many)+1, api.ErrResource)
		refused(t, many+" // ;\n..;", len(many)+6, api.ErrResource)
		refused(t, many+";;;;", len(many), api.ErrResource)
	}
	refused(t, strings.Repeat(";", mostBytes), mostTokens, api.ErrResource)
	// What is passed over doesn't count.
	are(t, strings.Repeat("//\n", mostTokens+100)+"a", name("a", 3*mostTokens+300), end(3*mostTokens+301))
}

// P9.2: of two errors the one that is farther to the left is told; at one place ErrSyntax, which is named first.
func TestWhichError(t *testing.T) {
	long := strings.Repeat("n", mostName+1)
	refused(t, "? @", 0, api.ErrSyntax)
	refused(t, "a ? "+long, 2, api.ErrSyntax)
	refused(t, "a "+long+" ?", 2, api.ErrSyntax)
	refused(t, "a <; .", 2, api.ErrSyntax)
	for _, wrong := range []string{"?", long, "<", ".", "/", "_"} {
		many := strings.Repeat(";", mostTokens)
		refused(t, wrong+many, 0, api.ErrSyntax)
		refused(t, many[1:]+wrong, mostTokens-1, api.ErrSyntax)
		refused(t, many[1:]+" "+wrong+many, mostTokens, api.ErrSyntax)
		refused(t, many+" "+wrong, mostTokens+1, api.ErrSyntax)
		refused(t, many+" "+wrong+many, mostTokens+1, api.ErrSyntax)
		refused(t, many+" ; "+wrong, mostTokens+1, api.ErrResource)
		refused(t, many+many+wrong, mostTokens, api.ErrResource)
	}
}

// P9.3: the tokens' texts, with a blank between any two, whatever else they are.
func TestJoin(t *testing.T) {
	for _, x := range []struct {
		l    []api.Token
		want string
	}{
		{nil, ""},
		{[]api.Token{}, ""},
		{[]api.Token{end(7)}, ""},
		{[]api.Token{name("a", 3)}, "a"},
		{[]api.Token{name("a", 0), end(1)}, "a "},
		{[]api.Token{end(0), end(0), end(0)}, "  "},
		{[]api.Token{end(0), name("a", 0)}, " a"},
		{[]api.Token{name("a", 0), sign("<<<", 1), num("3", 4), sign(";", 5)}, "a <<< 3 ;"},
		{[]api.Token{sign("<", 9), sign("<", 9)}, "< <"},
		{[]api.Token{{K: -1, S: "what \n", At: -5}, {K: 99, S: "//\xff"}}, "what \n //\xff"},
	} {
		if got := lex.Join(x.l); got != x.want {
			t.Errorf("Join(%v) = %q, not %q", x.l, got, x.want)
		}
	}
	l, _, _ := lex.Words("secret a;// all\n\tout o=a<<<0x1F;")
	if got := lex.Join(l); got != "secret a ; out o = a <<< 0x1F ; " {
		t.Errorf("Join = %q", got)
	}
}

// What is answered is new: neither the tokens, nor the room behind them, belong to another answer, and Join leaves them as they are.
func TestNewMemory(t *testing.T) {
	const s = "secret a; out o = a;"
	l, _, _ := lex.Words(s)
	kept := slices.Clone(l)
	lex.Join(l)
	if !slices.Equal(l, kept) {
		t.Error("Join changed its tokens")
	}
	other, _, _ := lex.Words(s)
	room := l[:cap(l)]
	for k := range room {
		room[k] = api.Token{K: -1, S: "changed", At: -1}
	}
	if !slices.Equal(other, kept) {
		t.Error("two answers share their tokens")
	}
	are(t, s, kept...)
}
