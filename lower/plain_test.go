package lower_test

import (
	"fmt"
	"math/rand"
	"slices"
	"strings"
	"testing"

	"bauta/api"
	"bauta/circ"
	"bauta/eval"
	"bauta/lower"
)

// parts is what stands for a gate of that kind, none of one that stands by itself: a and b are what stands for the gates that it takes, numbers the parts themselves, from 0 on.
func parts(kind int) []string {
	switch kind {
	case 9:
		return strings.Fields("~a ~b 0&1 ~2")
	case 10:
		return strings.Fields("a^b a&b 1<<1 0&2 1^3 0<<1 0&5 4<<2 6&7 4^8 6<<2 6&10 9<<4 11&12 9^13 11<<4 11&15 14<<8 16&17 14^18 16<<8 16&20 19<<16 21&22 19^23 24<<1 0^25")
	case 11:
		return strings.Fields("~a 0^b 0&b 2<<1 1&3 2^4 1<<1 1&6 5<<2 7&8 5^9 7<<2 7&11 10<<4 12&13 10^14 12<<4 12&16 15<<8 17&18 15^19 17<<8 17&21 20<<16 22&23 20^24 25<<1 1^26 ~27")
	}
	return nil
}

// account is an account of its own of what Circuit tells of c, which can be, however many gates there are.
func account(t *testing.T, c api.Circuit) api.Circuit {
	t.Helper()
	made := api.Circuit{Secrets: c.Secrets, Publics: c.Publics}
	var stands []int
	for _, g := range c.Gates {
		first := len(made.Gates)
		a, b := 0, 0
		if g.K > 2 {
			a, b = stands[g.A], stands[g.B]
		}
		// Where a part's gate is.
		place := func(s string) string {
			switch s {
			case "":
				return ""
			case "a":
				return fmt.Sprint(a)
			case "b":
				return fmt.Sprint(b)
			}
			return fmt.Sprint(first + number(t, s))
		}
		l := parts(g.K)
		for _, part := range l {
			sign := strings.Trim(part, "ab0123456789")
			left, right, _ := strings.Cut(part, sign)
			if sign != "<<" {
				right = place(right)
			}
			one := circuit(t, place(left)+sign+right).Gates[0]
			one.Secret = made.Gates[one.A].Secret || sign != "~" && sign != "<<" && made.Gates[one.B].Secret
			made.Gates = append(made.Gates, one)
		}
		if len(l) == 0 {
			g.A, g.B = a, b
			made.Gates = append(made.Gates, g)
		}
		stands = append(stands, len(made.Gates)-1)
	}
	for _, o := range c.Outs {
		made.Outs = append(made.Outs, api.Out{Name: o.Name, At: stands[o.At]})
	}
	return made
}

// held looks that Circuit, Plain and Ands tell of c, which can be, what the plain account tells; what Circuit should tell.
func held(t *testing.T, c api.Circuit) (api.Circuit, api.Errno) {
	t.Helper()
	pairs, plain := 0, true
	for _, g := range c.Gates {
		if g.K == 3 && c.Gates[g.A].Secret && c.Gates[g.B].Secret {
			pairs++
		}
		plain = plain && len(parts(g.K)) == 0
	}
	asked(t, c, plain, pairs)
	want := account(t, c)
	if len(want.Gates) > 8000 {
		told(t, c, api.Circuit{}, api.ErrResource)
		return api.Circuit{}, api.ErrResource
	}
	lowered(t, c, want)
	return want, api.OK
}

// drawn is any circuit that can be, of so many gates, of which others stand for about one of so many.
func drawn(r *rand.Rand, many, rare int) api.Circuit {
	c := api.Circuit{Secrets: 1 + r.Intn(4), Publics: 1 + r.Intn(4)}
	for k := range many {
		g := api.Gate{K: r.Intn(9)}
		if r.Intn(rare) == 0 {
			g.K = 9 + r.Intn(3)
		}
		if k == 0 {
			g.K = r.Intn(3)
		}
		switch g.K {
		case 0:
			g.N = some(r)
		case 1:
			g.N, g.Secret = uint32(r.Intn(c.Secrets)), true
		case 2:
			g.N = uint32(r.Intn(c.Publics))
		default:
			g.A = r.Intn(k)
			g.Secret = c.Gates[g.A].Secret
			if g.K == 3 || g.K == 4 || g.K > 8 {
				g.B = r.Intn(k)
				g.Secret = g.Secret || c.Gates[g.B].Secret
			} else if g.K != 5 {
				g.N = uint32(r.Intn(32))
			}
		}
		c.Gates = append(c.Gates, g)
	}
	for k := range r.Intn(6) * min(many, 1) {
		c.Outs = append(c.Outs, api.Out{Name: fmt.Sprint("o", k), At: r.Intn(many)})
	}
	return c
}

// edges are words at which sums go over, or just don't.
func edges() []uint32 {
	return words(0, 1, 2, 3, 0x7ffffffe, 0x7fffffff, 0x80000000, 0x80000001, 0xfffffffe, 0xffffffff, 0xffff, 0x10000, 0x55555555, 0xaaaaaaaa, 0x0f0f0f0f, 0xdeadbeef)
}

// some is any word, often one at the edges.
func some(r *rand.Rand) uint32 {
	if r.Intn(2) == 0 {
		return r.Uint32()
	}
	return edges()[r.Intn(len(edges()))]
}

// P16.1, P16.2, P16.3: any circuits, of any words.
func TestAnyCircuits(t *testing.T) {
	r := rand.New(rand.NewSource(16))
	found := map[api.Errno]int{}
	for k := range 6000 {
		c := drawn(r, k%50, 1+k%7)
		made, err := held(t, c)
		found[err]++
		for range 3 {
			same(t, c, made, words(some(r), some(r), some(r), some(r)), words(some(r), some(r), some(r), some(r)))
		}
	}
	for range 60 {
		_, err := held(t, drawn(r, 700+r.Intn(2000), 1+r.Intn(8)))
		found[err]++
	}
	if found[api.OK] < 6000 || found[api.ErrResource] < 10 {
		t.Errorf("just %v", found)
	}
}

// P16.2: each gate that others stand for, of two gates ahead, themselves of each kind, wherever they are.
func TestPairs(t *testing.T) {
	for a := 3; a < 12; a++ {
		for b := 3; b < 12; b++ {
			for last := 9; last < 12; last++ {
				for x := range 16 {
					c := api.Circuit{Secrets: 1, Publics: 1, Gates: []api.Gate{{K: 1, Secret: true}, {K: 2}}}
					for k, kind := range []int{a, b, last} {
						g := api.Gate{K: kind, A: x >> k & 1, B: x >> (k + 1) & 1}
						if k == 2 {
							g.A, g.B = 2+x&1, 3-x&1
						}
						if kind > 4 && kind < 9 {
							g.B = 0
						}
						g.Secret = c.Gates[g.A].Secret || (kind < 5 || kind > 8) && c.Gates[g.B].Secret
						c.Gates = append(c.Gates, g)
					}
					c.Outs = []api.Out{{Name: "o", At: 4}, {Name: "p", At: 3}, {Name: "q", At: 2}}
					held(t, c)
				}
			}
		}
	}
}

// P16.3: what stands for each of the three is, of words that go over and of any, what a sum, a difference, an or of whole numbers is.
func TestWords(t *testing.T) {
	made := map[string]api.Circuit{}
	for _, s := range []string{"s0* s1*", "s0* p1", "p0 s1*", "p0 p1"} {
		star := ""
		if strings.Contains(s, "*") {
			star = "*"
		}
		for _, sign := range []string{"+", "-", "|"} {
			c, err := lower.Circuit(circuit(t, fmt.Sprintf("%s 0%s1%s o=2", s, sign, star)))
			if err != api.OK {
				t.Fatalf("%s of %s: %v", sign, s, err)
			}
			made[sign+s] = c
		}
	}
	hold := func(a, b uint32) {
		const over = 1 << 32
		x, y := uint64(a), uint64(b)
		want := map[byte]uint32{'+': uint32((x + y) % over), '-': uint32((x + over - y) % over), '|': a | b}
		for s, c := range made {
			if got := circ.Outs(c, words(a, b), words(a, b)); !slices.Equal(got, words(want[s[0]])) {
				t.Errorf("%s of %d, %d: %v, not %d", s, a, b, got, want[s[0]])
			}
		}
	}
	for _, a := range edges() {
		for _, b := range edges() {
			hold(a, b)
		}
	}
	// A carry from each bit to each one beyond.
	for from := range 32 {
		for to := from; to <= 32; to++ {
			a := uint32(1<<to - 1<<from)
			hold(a, 1<<from)
			hold(1<<from, a)
			hold(a, ^a)
			hold(^a, a+1)
		}
	}
	r := rand.New(rand.NewSource(163))
	for range 2000 {
		hold(some(r), some(r))
	}
}

// P16.3: numbers instead of inputs, and one gate twice.
func TestWordsOfNumbers(t *testing.T) {
	for _, a := range edges() {
		for _, b := range edges() {
			c := circuit(t, fmt.Sprintf("#%d #%d 0+1 0-1 0|1 0+0 0-0 1|1 a=2 b=3 c=4 d=5 e=6 f=7", a, b))
			made, err := held(t, c)
			if got := circ.Outs(made, nil, nil); err != api.OK || !slices.Equal(got, words(a+b, a-b, a|b, a+a, 0, b)) {
				t.Errorf("%d, %d: %v, %v", a, b, got, err)
			}
		}
	}
}

// expr is an expression of those names, at most so deep.
func expr(r *rand.Rand, deep int, l []string) string {
	if deep == 0 || r.Intn(6) == 0 {
		return l[r.Intn(len(l))]
	}
	forms := []string{"~$", "-$", "($ + $)", "($ - $)", "($ & $)", "($ | $)", "($ ^ $)", "($ << 5)", "($ >> 31)", "($ <<< 40)", "($ << 32)", "sel($, $, $)", "f($, $)", "g($)"}
	s := forms[r.Intn(len(forms))]
	for strings.Contains(s, "$") {
		s = strings.Replace(s, "$", expr(r, deep-1, l), 1)
	}
	return s
}

// P16.3: of programs' circuits the outputs stay what the program's are.
func TestAnyPrograms(t *testing.T) {
	r := rand.New(rand.NewSource(164))
	found := map[api.Errno]int{}
	for k := range 1000 {
		s, l := "secret a, b; public p, q; fn f(x, y) = x - (y | 3); fn g(x) = f(x + 1, x); ", []string{"a", "b", "p", "q", "7", "0xffffffff", "0"}
		for v := range 1 + r.Intn(6) {
			s += fmt.Sprintf("x%d = %s; out o%d = x%d; ", v, expr(r, 1+k%7, l), v, v)
			l = append(l, fmt.Sprint("x", v))
		}
		rounds := r.Intn(5)
		if k%50 == 0 {
			// Of 150 rounds and more there are too many gates.
			rounds = 130 + r.Intn(60)
		}
		s += fmt.Sprintf("for i in 0 .. %d { x0 = x0 + (x0 <<< i) - i; } out o = x0;", rounds)
		c, at, err := circ.Text(s)
		if err != api.OK {
			t.Fatalf("%q: %d, %v", s, at, err)
		}
		made, err := held(t, c)
		found[err]++
		if err != api.OK {
			continue
		}
		for range 4 {
			secrets, publics := words(some(r), some(r)), words(some(r), some(r))
			want, _, e := eval.Text(s, secrets, publics)
			if got := circ.Outs(made, secrets, publics); e != api.OK || !slices.Equal(got, want) {
				t.Errorf("%q, %v, %v: %v, not %v", s, secrets, publics, got, want)
			}
		}
	}
	if found[api.OK] < 700 || found[api.ErrResource] < 5 {
		t.Errorf("just %v", found)
	}
}
