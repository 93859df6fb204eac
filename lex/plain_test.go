package lex_test

import (
	"math/rand"
	"regexp"
	"slices"
	"strings"
	"testing"

	"bauta/api"
	"bauta/lex"
)

// What is passed over, and what a token is: letters, digits, a sign, the longest one ahead.
var (
	between = regexp.MustCompile(`^(?:[ \t\n]|//[^\n]*)*`)
	begins  = regexp.MustCompile(`^(?:([A-Za-z][A-Za-z0-9_]*)|([0-9][A-Za-z0-9]*)|(<<<|<<|>>|\.\.|[-=;,(){}+&|^~]))`)
	keys    = regexp.MustCompile(`^(?:secret|public|out|show|for|in|fn)$`)
)

// plain is an account of its own of a program's tokens.
func plain(s string) ([]api.Token, int, api.Errno) {
	if len(s) > mostBytes {
		return nil, 0, api.ErrResource
	}
	var l []api.Token
	at := 0
	for {
		at += len(between.FindString(s[at:]))
		x := api.Token{K: api.TokEnd, At: at}
		if at < len(s) {
			m := begins.FindStringSubmatch(s[at:])
			if m == nil || len(m[1]) > mostName {
				return nil, at, api.ErrSyntax
			}
			x.S = m[0]
			switch {
			case keys.MatchString(m[1]):
				x.K = api.TokWord
			case m[1] != "":
				x.K = api.TokName
			case m[2] != "":
				x.K = api.TokNum
			default:
				x.K = api.TokSign
			}
		}
		if len(l) == mostTokens {
			return nil, at, api.ErrResource
		}
		l = append(l, x)
		if x.K == api.TokEnd {
			return l, 0, api.OK
		}
		at += len(x.S)
	}
}

// held looks that Words of s is what the plain account has, and goes there and back; how many tokens there are.
func held(t *testing.T, s string) int {
	t.Helper()
	want, place, err := plain(s)
	l, at, e := lex.Words(s)
	if !slices.Equal(l, want) || at != place || e != err {
		t.Fatalf("Words(%.200q) = %s, %d, %v, not %s, %d, %v", s, begun(l), at, e, begun(want), place, err)
	}
	if e == api.OK {
		backAgain(t, l)
	}
	return len(l)
}

// backAgain looks that Words of Join of tokens are the same, but for their places; or that there are too many bytes.
func backAgain(t *testing.T, l []api.Token) {
	t.Helper()
	joined := lex.Join(l)
	again, at, e := lex.Words(joined)
	if len(joined) > mostBytes {
		if len(again) != 0 || at != 0 || e != api.ErrResource {
			t.Errorf("Words of %d bytes of Join: %d tokens, %d, %v", len(joined), len(again), at, e)
		}
		return
	}
	if at != 0 || e != api.OK || !slices.EqualFunc(l, again, func(a, b api.Token) bool { return a.K == b.K && a.S == b.S }) {
		t.Fatalf("Words(%.200q), of Join, = %s, %d, %v, not %s", joined, begun(again), at, e, begun(l))
	}
	// Each stands where Join laid it: behind those ahead of it, and their blanks.
	place := 0
	for _, x := range again {
		if x.K == api.TokEnd {
			place = len(joined)
		}
		if x.At != place {
			t.Fatalf("Words(%.200q), of Join: %v, not at %d", joined, x, place)
		}
		place += len(x.S) + 1
	}
}

// P9.2, P9.4: every text of up to two bytes, and every one of up to five of those at which something turns.
func TestShortTexts(t *testing.T) {
	held(t, "")
	for c := range 256 {
		held(t, one(c))
		for d := range 256 {
			held(t, one(c)+one(d))
		}
	}
	texts := []string{""}
	for range 5 {
		var longer []string
		for _, s := range texts {
			for _, c := range "n_1<>./= \n?" {
				longer = append(longer, s+string(c))
			}
		}
		for _, s := range longer {
			held(t, s)
		}
		texts = longer
	}
}

// pieces are what any text may be made of; those that begin no token are few, so that many texts have tokens.
func pieces() []string {
	l := append(words(), signs()...)
	l = append(l, signs()...)
	return append(l, " ", " ", "\t", "\n", "\n", "// remark\n", "//\n", "a", "b_2", "secrets", "inn", "X9", "_", "0", "42", "0x1F", "9z",
		strings.Repeat("w", mostName), strings.Repeat("v", mostName-1)+"_", strings.Repeat("5", 40), " ", "\n")
}

// text is so many pieces, one behind the other.
func text(r *rand.Rand, n int) string {
	b := strings.Builder{}
	l := pieces()
	for range n {
		// A blank between most of them, since much of what runs together is none.
		if r.Intn(3) > 0 {
			b.WriteString(" ")
		}
		b.WriteString(l[r.Intn(len(l))])
	}
	return b.String()
}

// P9.2, P9.4: any texts, of few pieces and of so many that they come to the bounds, with any byte put in.
func TestAnyTexts(t *testing.T) {
	r := rand.New(rand.NewSource(9))
	went := 0
	for k := range 20000 {
		s := text(r, 1+k%40)
		if held(t, s) > 0 {
			went++
		}
		at := r.Intn(len(s) + 1)
		held(t, s[:at]+one(r.Intn(256))+s[at:])
	}
	if went < 5000 {
		t.Errorf("just %d of the texts have tokens", went)
	}
	for range 300 {
		held(t, strings.ReplaceAll(text(r, 2000+r.Intn(6000)), "_", "-"))
	}
}

// P9.4: tokens whose Join has as many bytes as may be, and one more; and as many tokens as may be.
func TestThereAndBackAtTheBounds(t *testing.T) {
	// Ten bytes and their two blanks a row; a name at the end fills up.
	row := "abcdefghi;"
	for _, n := range []int{mostBytes - 2, mostBytes - 1, mostBytes, mostBytes + 1, mostBytes + 2} {
		rest := n - 12*1600
		s := strings.Repeat(row, 1600) + strings.Repeat("8", rest-1)
		l, _, e := lex.Words(s)
		if e != api.OK || len(lex.Join(l)) != n {
			t.Fatalf("%d tokens, %v, %d bytes joined, not %d", len(l), e, len(lex.Join(l)), n)
		}
		backAgain(t, l)
	}
	if n := held(t, strings.Repeat("abcdefghi;", 1999)+"z"); n != mostTokens {
		t.Errorf("%d tokens", n)
	}
	if n := held(t, strings.Repeat(";", mostTokens-1)); n != mostTokens {
		t.Errorf("%d tokens", n)
	}
}
