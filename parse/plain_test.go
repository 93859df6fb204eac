package parse_test

import (
	"math/rand"
	"slices"
	"strings"
	"testing"

	"bauta/api"
	"bauta/lex"
	"bauta/parse"
	"bauta/word"
)

// grammar is the document's: what each part may be; @ is ahead of what lies in one more. What may come as often as one likes is a part of its own, of which it is what follows. The shortest way to go on stands first.
func grammar() map[string][]string {
	return map[string][]string{
		"all":     {"program end"},
		"one":     {"EXPR end"},
		"program": {"", "STMT program"},
		"STMT":    {"INNER", "secret NAMES ;", "public NAMES ;", "out NAME = EXPR ;", "show NAME = EXPR ;", "fn NAME ( NAMES ) = EXPR ;"},
		"INNER":   {"NAME = EXPR ;", "for NAME in EXPR .. EXPR { INNERS }"},
		"INNERS":  {"", "@INNER INNERS"},
		"NAMES":   {"NAME", "NAME , NAMES"},
		"EXPR":    {"XOR XORS"},
		"XORS":    {"", "| XOR XORS"},
		"XOR":     {"AND ANDS"},
		"ANDS":    {"", "^ AND ANDS"},
		"AND":     {"SHIFT SHIFTS"},
		"SHIFTS":  {"", "& SHIFT SHIFTS"},
		"SHIFT":   {"SUM SUMS"},
		"SUMS":    {"", "<< SUM SUMS", ">> SUM SUMS", "<<< SUM SUMS"},
		"SUM":     {"UNARY UNARIES"},
		"UNARIES": {"", "+ UNARY UNARIES", "- UNARY UNARIES"},
		"UNARY":   {"PRIMARY", "~ @UNARY", "- @UNARY"},
		"PRIMARY": {"NAME", "NUM", "NAME ( @EXPR EXPRS )", "( @EXPR )"},
		"EXPRS":   {"", ", @EXPR EXPRS"},
	}
}

// still is what may still come: a part, in how many others it lies, what is behind it.
type still struct {
	part   string
	deep   int
	behind *still
}

// ahead is that way to go on, as deep, ahead of what is behind.
func ahead(way string, deep int, behind *still) *still {
	for _, part := range slices.Backward(strings.Fields(way)) {
		deeper, more := strings.CutPrefix(part, "@")
		behind = &still{deeper, deep, behind}
		if more {
			behind.deep++
		}
	}
	return behind
}

// meets tells whether that token is what a part without parts stands for.
func meets(part string, x api.Token) bool {
	switch part {
	case "NAME":
		return x.K == api.TokName
	case "NUM":
		return x.K == api.TokNum
	case "end":
		return x.K == api.TokEnd
	}
	return (x.K == api.TokWord || x.K == api.TokSign) && x.S == part
}

// reader is all that may still come of a text.
type reader struct {
	parts map[string][]string
	may   []*still
}

func reading(whole string) *reader {
	return &reader{grammar(), []*still{{part: whole}}}
}

// take leaves what may still come behind that token; it tells whether it goes on with what lies in too many others.
func (r *reader) take(x api.Token) bool {
	var next []*still
	tooDeep := false
	for k := 0; k < len(r.may); k++ {
		s := r.may[k]
		l, is := r.parts[s.part]
		switch {
		case !is && meets(s.part, x):
			next = append(next, s.behind)
		case is && s.deep > mostDeep:
			tooDeep = true
		case is:
			for _, way := range l {
				r.may = append(r.may, ahead(way, s.deep, s.behind))
			}
		}
	}
	r.may = next
	return tooDeep
}

// plain is an account of its own of programs and expressions: of all that may still come at each token, and of trees that are cut from the outside.
func plain(s, whole string) (api.Node, int, api.Errno) {
	l, at, err := lex.Words(s)
	if err != api.OK {
		return api.Node{}, at, err
	}
	r := reading(whole)
	for _, x := range l {
		tooDeep := r.take(x)
		if len(r.may) == 0 && tooDeep {
			return api.Node{}, x.At, api.ErrResource
		}
		if len(r.may) == 0 {
			return api.Node{}, x.At, api.ErrSyntax
		}
		if x.K == api.TokNum {
			switch _, e := word.Number(x.S); e {
			case api.ErrForm:
				return api.Node{}, x.At, api.ErrSyntax
			case api.ErrLong:
				return api.Node{}, x.At, api.ErrResource
			}
		}
	}
	if whole == "one" {
		return cutExpr(l[:len(l)-1]), 0, api.OK
	}
	return program(l[0].At, cutStatements(l[:len(l)-1])...), 0, api.OK
}

// first is where that text first is among tokens.
func first(l []api.Token, s string) int {
	return slices.IndexFunc(l, func(x api.Token) bool { return x.S == s })
}

// named is the names among tokens.
func named(l []api.Token) []string {
	var p []string
	for _, x := range l {
		if x.K == api.TokName {
			p = append(p, x.S)
		}
	}
	return p
}

// cutStatements cuts statements behind their ; or the } of the loop.
func cutStatements(l []api.Token) []api.Node {
	var all []api.Node
	for from, deep, k := 0, 0, 0; k < len(l); k++ {
		switch l[k].S {
		case "{":
			deep++
		case "}":
			deep--
		}
		if deep == 0 && (l[k].S == ";" || l[k].S == "}") {
			all = append(all, cutStatement(l[from:k+1]))
			from = k + 1
		}
	}
	return all
}

func cutStatement(l []api.Token) api.Node {
	n := len(l) - 1
	switch l[0].S {
	case "secret":
		return inputs(6, l[0].At, named(l)...)
	case "public":
		return inputs(7, l[0].At, named(l)...)
	case "out":
		return set(8, l[1].S, l[0].At, cutExpr(l[3:n]))
	case "show":
		return set(9, l[1].S, l[0].At, cutExpr(l[3:n]))
	case "fn":
		shut := first(l, ")")
		return function(l[1].S, l[0].At, cutExpr(l[shut+2:n]), named(l[2:shut])...)
	case "for":
		dots, brace := first(l, ".."), first(l, "{")
		return loop(l[1].S, l[0].At, append(list(cutExpr(l[3:dots]), cutExpr(l[dots+1:brace])), cutStatements(l[brace+1:n])...)...)
	}
	return set(10, l[0].S, l[0].At, cutExpr(l[2:n]))
}

// outside is the last place of one of these signs that is in no brackets and is behind a part; 0, if there is none.
func outside(l []api.Token, signs []string) int {
	deep := 0
	for k := len(l) - 1; k > 0; k-- {
		switch l[k].S {
		case ")":
			deep++
		case "(":
			deep--
		}
		behind := l[k-1].K == api.TokName || l[k-1].K == api.TokNum || l[k-1].S == ")"
		if deep == 0 && behind && slices.Contains(signs, l[k].S) {
			return k
		}
	}
	return 0
}

// cutExpr cuts an expression at the last of the signs that hold least.
func cutExpr(l []api.Token) api.Node {
	for _, signs := range levels() {
		if k := outside(l, signs); k > 0 {
			return bin(l[k].S, cutExpr(l[:k]), cutExpr(l[k+1:]))
		}
	}
	x := l[0]
	switch {
	case x.S == "~" || x.S == "-":
		return un(x.S, x.At, cutExpr(l[1:]))
	case x.S == "(":
		return at(x.At, cutExpr(l[1:len(l)-1]))
	case x.K == api.TokNum:
		n, _ := word.Number(x.S)
		return num(n, x.At)
	case len(l) == 1:
		return name(x.S, x.At)
	}
	return call(x.S, x.At, cutParts(l[2:len(l)-1])...)
}

// cutParts cuts a call's parts at their commas.
func cutParts(l []api.Token) []api.Node {
	if k := outside(l, []string{","}); k > 0 {
		return append(cutParts(l[:k]), cutExpr(l[k+1:]))
	}
	return list(cutExpr(l))
}

// held looks that s is, as a program and as an expression, what the plain account has; whether it is a program.
func held(t *testing.T, s string) bool {
	t.Helper()
	want, place, err := plain(s, "one")
	n, at, e := parse.Expr(s)
	if !same(n, want) || at != place || e != err {
		t.Fatalf("Expr(%q) = %s, %d, %v, not %s, %d, %v", s, tell(n), at, e, tell(want), place, err)
	}
	want, place, err = plain(s, "all")
	n, at, e = parse.Parse(s)
	if !same(n, want) || at != place || e != err {
		t.Fatalf("Parse(%q) = %s, %d, %v, not %s, %d, %v", s, tell(n), at, e, tell(want), place, err)
	}
	return e == api.OK
}

// some are tokens of which each stands for all of its like.
func some() []string {
	return strings.Fields("secret out for in fn a 1 0x = ; , ( ) { } .. | << - ~")
}

// P10.1 to P10.3: all that so many tokens may be, and each token that does not go on behind it.
func TestShortTexts(t *testing.T) {
	var longer func(s string, left int)
	longer = func(s string, left int) {
		held(t, s)
		_, at, e := parse.Parse(s)
		if left == 0 || e != api.OK && at < len(s) {
			return
		}
		for _, x := range some() {
			longer(s+x+" ", left-1)
		}
	}
	longer("", 6)
	for _, s := range []string{"a = b ", "a = f ( ", "for i in ", "for i in 0 .. 1 { ", "fn f ( a ", "out o = ~ ", "a = ( b "} {
		longer(s, 4)
	}
}

// P10.3: each statement with each of its tokens in each other's place, moved there, or instead of it.
func TestEachTokenInEachPlace(t *testing.T) {
	for _, r := range rows() {
		l := strings.Fields(r.s)
		for i, x := range l {
			less := slices.Delete(slices.Clone(l), i, i+1)
			for k := range l {
				held(t, strings.Join(slices.Insert(slices.Clone(less), k, x), " "))
				instead := slices.Clone(l)
				instead[k] = x
				held(t, strings.Join(instead, " "))
				instead[i] = l[k]
				held(t, strings.Join(instead, " "))
			}
			for _, y := range some() {
				held(t, strings.Join(slices.Insert(slices.Clone(l), i, y), " "))
				held(t, strings.Join(slices.Insert(slices.Clone(less), i, y), " "))
			}
		}
	}
}

// maker makes texts of the grammar, as long as there is room for them.
type maker struct {
	r     *rand.Rand
	parts map[string][]string
	room  int
	l     []string
}

// part adds what a part may be.
func (m *maker) part(s string) {
	s = strings.TrimPrefix(s, "@")
	ways, is := m.parts[s]
	if !is {
		m.l = append(m.l, m.token(s))
		m.room--
		return
	}
	way := ways[0]
	if m.room > 0 {
		way = ways[m.r.Intn(len(ways))]
	}
	for _, part := range strings.Fields(way) {
		m.part(part)
	}
}

// token is one that a part without parts stands for; few numbers are none.
func (m *maker) token(part string) string {
	l := []string{part}
	switch part {
	case "end":
		l = []string{""}
	case "NAME":
		l = strings.Fields("a b c i j sel f secrets")
	case "NUM":
		l = strings.Fields("0 1 7 31 32 0xFf 4294967295 0x00001")
		if m.r.Intn(300) == 0 {
			l = strings.Fields("1x 4294967296")
		}
	}
	return l[m.r.Intn(len(l))]
}

// spread is tokens with blanks ahead of them, which some signs can do without.
func spread(r *rand.Rand, l []string) string {
	b := strings.Builder{}
	for k, s := range l {
		none := k == 0 || strings.Contains(";,(){}=~^&|+", s) || strings.Contains(";,(){}=~^&|+", l[k-1])
		blanks := []string{" ", "\n", "\t ", " // not ; read\n", "//\n  ", ""}
		if !none {
			blanks = blanks[:5]
		}
		b.WriteString(blanks[r.Intn(len(blanks))])
		b.WriteString(s)
	}
	return b.String()
}

// changed is tokens of which one is left out, another one, there twice, or two are in each other's place.
func changed(r *rand.Rand, l []string) []string {
	l = slices.Clone(l)
	if len(l) == 0 {
		return l
	}
	i, k := r.Intn(len(l)), r.Intn(len(l))
	switch r.Intn(5) {
	case 0:
		return slices.Delete(l, i, i+1)
	case 1:
		return slices.Insert(l, i, l[k])
	case 2:
		l[i], l[k] = l[k], l[i]
	case 3:
		l[i] = some()[r.Intn(len(some()))]
	case 4:
		return l[:k]
	}
	return l
}

// P10.1 to P10.4: any programs and expressions, and ones with something changed, with any blanks between.
func TestAnyTexts(t *testing.T) {
	r := rand.New(rand.NewSource(10))
	went := 0
	for k := range 4000 {
		whole := "program"
		if k%4 == 0 {
			whole = "EXPR"
		}
		m := &maker{r: r, parts: grammar(), room: 4 + k%150}
		for len(m.l) < m.room/2 {
			m.part(whole)
			if whole == "EXPR" {
				break
			}
		}
		if held(t, spread(r, m.l)) {
			went++
		}
		held(t, spread(r, changed(r, m.l)))
		held(t, spread(r, changed(r, changed(r, m.l))))
	}
	if went < 2200 {
		t.Errorf("just %d are programs", went)
	}
}

// P10.3: any ways deeper, some deeper than may be, and whatever is there then.
func TestAnyDepth(t *testing.T) {
	r := rand.New(rand.NewSource(60))
	for range 1500 {
		loops := r.Intn(mostDeep + 3)
		if r.Intn(3) > 0 {
			loops = r.Intn(4)
		}
		var open, shut []string
		for range loops {
			open = append(open, round+strings.Repeat("b=~c;", r.Intn(2)))
			shut = append(shut, strings.Repeat("b=(c);", r.Intn(2))+"}")
		}
		if r.Intn(8) > 0 {
			open, shut = append(open, "a="), append(shut, ";")
			for k := loops; k < mostDeep-5+r.Intn(10); {
				w := ways()[r.Intn(len(ways()))]
				open, shut = append(open, w.open), append(shut, w.shut)
				k += w.by
			}
			open = append(open, strings.Fields("x 1 x+y f(x) ~x (1) x 0x ) ; a..b in")[r.Intn(12)])
		}
		slices.Reverse(shut)
		held(t, strings.Join(open, "")+strings.Join(shut, ""))
		held(t, strings.Join(open, ""))
	}
}

// placed is a tree with other places of its nodes.
func placed(n api.Node, places map[int]int) api.Node {
	n = moved(n, 0)
	n.At = places[n.At]
	for k := range n.L {
		n.L[k] = placed(n.L[k], places)
	}
	return n
}

// P10.4: blanks ahead of tokens change places alone, those that are told of what is wrong too.
func TestBlanksChangePlacesAlone(t *testing.T) {
	l := []string{"", "a b = c", "a = ( b", "out o = 0x ;", "secret a ; } out", "a = " + strings.Repeat("( ", mostDeep+1) + "b"}
	for _, r := range rows() {
		l = append(l, r.s, r.s+" "+r.s)
	}
	for _, s := range l {
		tokens := strings.Fields(s)
		n, at, e := parse.Parse(s)
		for _, blanks := range []string{" ", "  ", "\t", "\n", "\n\n", " \t\n", "// a = ? ( remark } ;\n", "//\n", " // secret\n// out\n\t"} {
			for k := -1; k <= len(tokens); k++ {
				wide := ""
				places := map[int]int{}
				narrow := 0
				for i, x := range append(slices.Clone(tokens), "") {
					// Ahead of one token, or of each.
					if k == i || k < 0 {
						wide += blanks
					}
					places[min(narrow, len(s))] = len(wide)
					wide += x
					if i < len(tokens)-1 {
						wide += " "
					}
					narrow += len(x) + 1
				}
				places[len(s)] = len(wide)
				got, place, err := parse.Parse(wide)
				if e != api.OK {
					isNone(t, wide, got, place, err, places[at], e)
					continue
				}
				is(t, wide, got, place, err, placed(n, places))
			}
		}
	}
}
