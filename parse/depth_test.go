package parse_test

import (
	"strings"
	"testing"

	"bauta/api"
	"bauta/parse"
)

// way is a way to go deeper: what is ahead, what is behind, how many more that is.
type way struct {
	open, shut string
	by         int
}

func ways() []way {
	return []way{
		{"(", ")", 1}, {"(a+", ")", 1}, {"f(", ")", 1}, {"f(a,", ")", 1}, {"f(", ",b)", 1}, {"f(1, 2 , ", ")", 1},
		{"~", "", 1}, {"-", "", 1}, {"-~", "", 2}, {"~(", ")", 2}, {"(-", ")", 2}, {"f(~", ")", 2}, {"(a&-", ")", 2}, {"(f(", "))", 2}, {"- f( ~(", "))", 4},
	}
}

// times is what is so much deeper, with brackets, if it does not come out.
func (w way) times(deep int) (string, string) {
	n := deep / w.by
	rest := deep % w.by
	return strings.Repeat("(", rest) + strings.Repeat(w.open, n), strings.Repeat(w.shut, n) + strings.Repeat(")", rest)
}

// tooDeep is the place of the token behind the one that goes deeper than may be.
func tooDeep(open string) int {
	deep := 0
	for k := range len(open) {
		if deep > mostDeep && open[k] != ' ' {
			return k
		}
		// In none of the ways - is between two parts.
		if strings.IndexByte("(~-", open[k]) >= 0 {
			deep++
		}
	}
	return len(open)
}

// isProgram looks that s is one.
func isProgram(t *testing.T, s string) {
	t.Helper()
	n, at, err := parse.Parse(s)
	if err != api.OK || at != 0 || n.K != api.Program || len(n.L) == 0 {
		t.Errorf("Parse(%.100q) of %d bytes: %d, %v", s, len(s), at, err)
	}
}

// isExpr looks that s is an expression, alone and in a statement.
func isExpr(t *testing.T, s string) {
	t.Helper()
	n, at, err := parse.Expr(s)
	if err != api.OK || at != 0 || same(n, api.Node{}) {
		t.Errorf("Expr(%.100q) of %d bytes: %d, %v", s, len(s), at, err)
	}
	isProgram(t, "a=b; o="+s+";")
}

// P10.3: each way to go deeper: just as deep as may be, and deeper.
func TestAsDeepAsMayBe(t *testing.T) {
	for _, w := range ways() {
		for deep := mostDeep - 5; deep <= mostDeep+5; deep++ {
			open, shut := w.times(deep)
			if deep <= mostDeep {
				isExpr(t, open+"x"+shut)
			} else {
				noExpr(t, open+"x"+shut, tooDeep(open), api.ErrResource)
			}
		}
		// Beside one another they may be as often as one likes.
		open, shut := w.times(mostDeep)
		isExpr(t, open+"x"+shut+"+"+open+"1"+shut+"&"+open+"y"+shut)
		open, shut = w.times(mostDeep - 1)
		isExpr(t, "f("+open+"x"+shut+","+open+"1"+shut+","+open+"y"+shut+")")
		isExpr(t, "("+open+"x"+shut+"-"+open+"1"+shut+")|-"+open+"y"+shut)
	}
}

// P10.2: just as deep as may be, the tree is as ever.
func TestTreesAsDeepAsMayBe(t *testing.T) {
	bracketed, called, signed := name("x", mostDeep), name("x", 2*mostDeep), name("x", mostDeep)
	for k := mostDeep - 1; k >= 0; k-- {
		bracketed = at(k, bracketed)
		called = call("f", 2*k, called)
		signed = un("~", k, signed)
	}
	expr(t, strings.Repeat("(", mostDeep)+"x"+strings.Repeat(")", mostDeep), bracketed)
	expr(t, strings.Repeat("f(", mostDeep)+"x"+strings.Repeat(")", mostDeep), called)
	expr(t, strings.Repeat("~", mostDeep)+"x", signed)
}

// bad is what can't be where an expression goes on, and how it is told of where it is not too deep.
func bad() map[string]api.Errno {
	return map[string]api.Errno{
		")": api.ErrSyntax, "": api.ErrSyntax, ";": api.ErrSyntax, "0x": api.ErrSyntax, "1a": api.ErrSyntax, "4294967296": api.ErrResource, "=": api.ErrSyntax, ",": api.ErrSyntax,
		"out": api.ErrSyntax, "}": api.ErrSyntax, "+": api.ErrSyntax, "|": api.ErrSyntax, "<<": api.ErrSyntax, "..": api.ErrSyntax, "{": api.ErrSyntax,
	}
}

// wrongExpr looks that s, alone, is no expression, for that error, there.
func wrongExpr(t *testing.T, s string, at int, want api.Errno) {
	t.Helper()
	n, place, err := parse.Expr(s)
	isNone(t, s, n, place, err, at, want)
}

// P10.3: at one and the same token it is told first that it is too deep; ahead of it, what is wrong there.
func TestTooDeepAndWrong(t *testing.T) {
	for _, opens := range []string{"(", "f(", "~", "-", "f(1)+(", "1|~"} {
		open := opens + strings.Repeat("(", mostDeep-1)
		for s, want := range bad() {
			wrongExpr(t, open+s, len(open), want)
			wrongExpr(t, open+"("+s, len(open)+1, api.ErrResource)
			wrongExpr(t, open+"~"+s, len(open)+1, api.ErrResource)
			wrongExpr(t, open+"- "+s+";", len(open)+2, api.ErrResource)
			wrongExpr(t, open+"g( \n"+s+";", len(open)+4, api.ErrResource)
			// What is wrong ahead of it is told.
			wrongExpr(t, "a b+"+open+"("+s, 2, api.ErrSyntax)
			wrongExpr(t, "0x+"+open+"("+s, 0, api.ErrSyntax)
			wrongExpr(t, "4294967296+"+open+"("+s, 0, api.ErrResource)
		}
		// Where no expression goes on, it is of no matter how deep it is.
		for s, at := range map[string]int{"a b": 2, "a out": 2, "a 0x": 2, "a;": 1, "a{": 1, "a~": 1, "1 1": 2, "a=": 1, "a(": none, "f()": none, "f(a b)": none, "f(a}": none} {
			if at == none {
				// An argument is one deeper.
				wrongExpr(t, open+s, len(open)+2, api.ErrResource)
			} else {
				wrongExpr(t, open+s, len(open)+at, api.ErrSyntax)
			}
		}
	}
}

// P10.3: signs between two parts go no deeper; what is ahead of the second part does.
func TestSignsBetweenGoNoDeeper(t *testing.T) {
	open, shut := strings.Repeat("(", mostDeep), strings.Repeat(")", mostDeep)
	isExpr(t, open+"a+b-c&d|e^f<<g>>h<<<i"+shut)
	isExpr(t, open+"a"+strings.Repeat("+b", 500)+strings.Repeat("|b&c", 200)+shut)
	for _, l := range levels() {
		for _, s := range l {
			ahead := open + "a" + s
			noExpr(t, ahead+"-b"+shut, len(ahead)+1, api.ErrResource)
			noExpr(t, ahead+"~0x"+shut, len(ahead)+1, api.ErrResource)
			noExpr(t, ahead+"(b)"+shut, len(ahead)+1, api.ErrResource)
			noExpr(t, ahead+"f(b)"+shut, len(ahead)+2, api.ErrResource)
			isExpr(t, open[1:]+"a"+s+"-b"+s+"~1"+s+"(c)"+s+"f(d,e)"+shut[1:])
			noExpr(t, open[1:]+"a"+s+"-b"+s+"~~1"+shut[1:], mostDeep-1+1+len(s)+2+len(s)+2, api.ErrResource)
		}
	}
}

const round = "for i in 0..1{"

// rounds are so many loops, in one another, and their ends.
func rounds(n int) (string, string) {
	return strings.Repeat(round, n), strings.Repeat("}", n)
}

// P10.3: loops in loops, as deep as may be, and what is in the last one.
func TestLoopsAsDeepAsMayBe(t *testing.T) {
	for n := 1; n <= mostDeep; n++ {
		open, shut := rounds(n)
		isProgram(t, open+shut)
		isProgram(t, open+"a=b;"+shut)
		isProgram(t, open+"a=b;c=d;for i in 0..1{}"+shut)
		refused(t, open+"secret a;"+shut, len(open), api.ErrSyntax)
		refused(t, open+"1", len(open), api.ErrSyntax)
		refused(t, open, len(open), api.ErrSyntax)
		refused(t, open+"a=b; ", len(open)+5, api.ErrSyntax)
	}
	// One more may be, but nothing in it, whatever it is: not even the text's end.
	open, shut := rounds(mostDeep + 1)
	isProgram(t, open+shut)
	isProgram(t, open+" // nothing\n "+shut)
	for _, s := range []string{"a=b;", "for i in 0..1{}", "secret a;", "out o=a;", "0x", "4294967296", ")", "{", ";", "", "in", "a b", "~"} {
		refused(t, open+s, len(open), api.ErrResource)
		refused(t, open+" \n"+s+";"+shut, len(open)+2, api.ErrResource)
	}
	open, shut = rounds(mostDeep + 2)
	refused(t, open+shut, len(open)-len(round), api.ErrResource)
	refused(t, open+"a b", len(open)-len(round), api.ErrResource)
	refused(t, "a b"+open, 2, api.ErrSyntax)
	// Beside one another there may be as many as one likes.
	open, shut = rounds(mostDeep)
	isProgram(t, open+"a=b;"+shut+open+"a=b;"+shut)
	isProgram(t, round+strings.Repeat(open[len(round):]+"a=b;"+shut[1:], 3)+"}")
}

// P10.3: expressions in loops are as deep as these, and go on from there.
func TestExpressionsInLoops(t *testing.T) {
	for n := range mostDeep + 1 {
		ahead, behind := rounds(n)
		for _, w := range ways() {
			open, shut := w.times(mostDeep - n)
			for s, rest := range map[string]string{"a=": ";", "for j in ": "..1{}", "for j in 0..": "{}"} {
				isProgram(t, ahead+s+open+"x"+shut+rest+behind)
				at := len(ahead + s + open)
				refused(t, ahead+s+open+"(x)"+shut+rest+behind, at+1, api.ErrResource)
				refused(t, ahead+s+open+"- x"+shut+rest+behind, at+2, api.ErrResource)
				refused(t, ahead+s+open+"f(x)"+shut+rest+behind, at+2, api.ErrResource)
				refused(t, ahead+s+open+"x"+shut+")"+rest+behind, at+1+len(shut), api.ErrSyntax)
			}
			// Behind a loop it is as deep as ahead of it.
			isProgram(t, ahead+"a=b;"+behind+"a="+strings.Repeat("(", mostDeep)+"x"+strings.Repeat(")", mostDeep)+";")
		}
	}
	// A statement that is in no loop lies in no others.
	for _, s := range []string{"out o=", "show o=", "a=", "fn f(a,b)="} {
		isProgram(t, s+strings.Repeat("~", mostDeep)+"x;")
		refused(t, s+strings.Repeat("~", mostDeep+1)+"x;", len(s)+mostDeep+1, api.ErrResource)
		isProgram(t, round+"}"+s+strings.Repeat("(", mostDeep)+"x"+strings.Repeat(")", mostDeep)+";")
		refused(t, round+"}"+s+strings.Repeat("(", mostDeep+1)+"x", len(round+"}"+s)+mostDeep+1, api.ErrResource)
	}
}
