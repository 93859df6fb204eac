package circ_test

import (
	"fmt"
	"math"
	"math/big"
	"math/rand"
	"slices"
	"testing"

	"bauta/api"
	"bauta/circ"
)

// Kinds of gates as the document has them, in numbers, with what each takes: A, B, and how many numbers N may be (of inputs as many as there are).
var kinds = []struct {
	name   string
	a, b   bool
	number int
}{
	{"GConst", false, false, 1 << 32}, {"GSec", false, false, 3}, {"GPub", false, false, 2}, {"GAnd", true, true, 1}, {"GXor", true, true, 1}, {"GNot", true, false, 1},
	{"GShl", true, false, 32}, {"GShr", true, false, 32}, {"GRot", true, false, 32}, {"GOr", true, true, 1}, {"GAdd", true, true, 1}, {"GSub", true, true, 1},
}

// ahead is gates of which 0, 2 and 4 aren't secret, 1 and 3 are; three secret inputs, two others.
func ahead() api.Circuit {
	return api.Circuit{Secrets: 3, Publics: 2, Gates: []api.Gate{{K: 0, N: 5}, {K: 1, Secret: true}, {K: 2}, {K: 4, A: 0, B: 1, Secret: true}, {K: 5, A: 2}}}
}

// with is those gates and others behind them.
func with(l ...api.Gate) api.Circuit {
	c := ahead()
	c.Gates = append(c.Gates, l...)
	return c
}

// can looks whether c can be, that it is left as it was, and that one that can't be has no words.
func can(t *testing.T, c api.Circuit, want bool, about string) {
	t.Helper()
	gates, outs, secrets, publics := slices.Clone(c.Gates), slices.Clone(c.Outs), c.Secrets, c.Publics
	if got := circ.Can(c); got != want {
		t.Errorf("Can of %s, %s: %v", about, tell(c), got)
	}
	one, two := words(1, 2, 3), words(4, 5)
	all, out := circ.Words(c, one, two), circ.Outs(c, one, two)
	if !want && (len(all) > 0 || len(out) > 0) || want && (len(all) != len(c.Gates) || len(out) != len(c.Outs)) {
		t.Errorf("words of %s, %s: %s, %s", about, tell(c), tell(all), tell(out))
	}
	if !slices.Equal(c.Gates, gates) || !slices.Equal(c.Outs, outs) || c.Secrets != secrets || c.Publics != publics || !slices.Equal(one, words(1, 2, 3)) || !slices.Equal(two, words(4, 5)) {
		t.Errorf("%s was changed to %s, %v, %v", about, tell(c), one, two)
	}
}

// P15.1: each kind of gate, right, and with just one thing wrong.
func TestCanGates(t *testing.T) {
	can(t, ahead(), true, "ahead")
	const last = 5
	for k, kind := range kinds {
		for _, a := range []int{0, 1, 2, 3, 4} {
			for _, b := range []int{0, 1, 2, 3, 4} {
				if a > 0 && !kind.a || b > 0 && !kind.b {
					continue
				}
				g := api.Gate{K: k, A: a, B: b, Secret: k == 1 || kind.a && a%2 == 1 || kind.b && b%2 == 1}
				can(t, with(g), true, kind.name)
				changed := func(change func(g *api.Gate), want bool) {
					t.Helper()
					h := g
					change(&h)
					can(t, with(h), want, kind.name)
					h.N = uint32(kind.number - 1)
					can(t, with(h), want, kind.name)
					// Wherever it stands.
					can(t, with(h, api.Gate{K: 0}, api.Gate{K: 5, A: 2}), want, kind.name)
				}
				changed(func(g *api.Gate) {}, true)
				changed(func(g *api.Gate) { g.Secret = !g.Secret }, false)
				for _, at := range []int{last, last + 1, last + 2, -1, -2, math.MaxInt, math.MinInt, 1 << 32, -1 << 32, 8000, 1 << 16} {
					changed(func(g *api.Gate) { g.A = at }, false)
					changed(func(g *api.Gate) { g.B = at }, false)
				}
				for at := 1; at < last; at++ {
					if !kind.a {
						changed(func(g *api.Gate) { g.A = at }, false)
					}
					if !kind.b {
						changed(func(g *api.Gate) { g.B = at }, false)
					}
				}
			}
		}
	}
}

// P15.1: kinds below 0 and beyond.
func TestCanKinds(t *testing.T) {
	for _, k := range []int{-1, -2, 12, 13, 14, 99, 256, 1 << 32, 1<<32 + 5, math.MaxInt, math.MinInt} {
		for _, secret := range []bool{false, true} {
			for _, a := range []int{0, 1, 2} {
				can(t, with(api.Gate{K: k, A: a, Secret: secret}), false, "a kind that there is none of")
				can(t, with(api.Gate{K: k, A: a, B: a, Secret: secret}, api.Gate{K: 0}), false, "a kind that there is none of")
			}
		}
	}
}

// P15.1: numbers at their bounds and beyond.
func TestCanNumbers(t *testing.T) {
	for k, kind := range kinds {
		g := api.Gate{K: k, Secret: k == 1}
		for _, n := range []uint32{0, 1, 2, 3, 4, 30, 31, 32, 33, 63, 64, 999, 1000, 1 << 16, 1 << 31, 1<<31 + 1, 1<<32 - 32, 1<<32 - 1} {
			g.N = n
			can(t, with(g), int(n) < kind.number, kind.name)
		}
	}
	for _, inputs := range []int{0, 1, 2, 999, 1000} {
		for n := range uint32(1003) {
			g := []api.Gate{{K: 1, N: n, Secret: true}}
			if got := circ.Can(api.Circuit{Gates: g, Secrets: inputs}); got != (int(n) < inputs) {
				t.Errorf("GSec %d of %d: %v", n, inputs, got)
			}
			g = []api.Gate{{K: 2, N: n}}
			if got := circ.Can(api.Circuit{Gates: g, Publics: inputs}); got != (int(n) < inputs) {
				t.Errorf("GPub %d of %d: %v", n, inputs, got)
			}
		}
		// Each of its own sort.
		can(t, api.Circuit{Gates: []api.Gate{{K: 1, Secret: true}}, Publics: inputs}, false, "a GSec of GPubs")
		can(t, api.Circuit{Gates: []api.Gate{{K: 2}}, Secrets: inputs}, false, "a GPub of GSecs")
	}
	// Twice the same input.
	can(t, with(api.Gate{K: 1, N: 2, Secret: true}, api.Gate{K: 1, N: 2, Secret: true}, api.Gate{K: 2, N: 1}, api.Gate{K: 2, N: 1}), true, "inputs twice")
}

// P15.1: how many inputs there may be.
func TestCanInputs(t *testing.T) {
	for inputs, want := range map[int]bool{0: true, 1: true, 999: true, 1000: true, 1001: false, 8000: false, -1: false, -1000: false, 1 << 32: false, -1 << 32: false, math.MaxInt: false, math.MinInt: false} {
		can(t, api.Circuit{Secrets: inputs}, want, "secrets")
		can(t, api.Circuit{Publics: inputs}, want, "publics")
		can(t, api.Circuit{Secrets: inputs, Publics: 1000}, want, "secrets")
		can(t, api.Circuit{Secrets: 1000, Publics: inputs}, want, "publics")
		can(t, api.Circuit{Secrets: inputs, Publics: 1001}, false, "both")
		can(t, api.Circuit{Secrets: -1, Publics: inputs}, false, "both")
		can(t, api.Circuit{Secrets: inputs, Gates: []api.Gate{{K: 0, N: 7}}, Outs: []api.Out{{Name: "o"}}}, want, "secrets and a gate")
		can(t, api.Circuit{Publics: inputs, Gates: []api.Gate{{K: 0, N: 7}}, Outs: []api.Out{{Name: "o"}}}, want, "publics and a gate")
	}
	for _, inputs := range []int{-1, math.MinInt, 1001, math.MaxInt} {
		can(t, api.Circuit{Secrets: inputs, Gates: []api.Gate{{K: 1, Secret: true}}}, false, "secrets and one of them")
		can(t, api.Circuit{Publics: inputs, Gates: []api.Gate{{K: 2}}}, false, "publics and one of them")
	}
}

// P15.1: how many gates there may be, and one that is wrong among many.
func TestCanMany(t *testing.T) {
	for many, want := range map[int]bool{7999: true, 8000: true, 8001: false, 8002: false, 20000: false} {
		c := api.Circuit{Secrets: 1}
		for k := range many {
			c.Gates = append(c.Gates, api.Gate{K: 5, A: max(0, k-1), Secret: true})
		}
		c.Gates[0] = api.Gate{K: 1, Secret: true}
		c.Outs = []api.Out{{Name: "o", At: many - 1}}
		can(t, c, want, fmt.Sprint(many, " gates"))
		if !want {
			continue
		}
		for _, at := range []int{1, 2, many / 2, many - 2, many - 1} {
			for _, g := range []api.Gate{{K: 5, A: at, Secret: true}, {K: 5, A: at - 1}, {K: 5, A: at - 1, B: 1, Secret: true}, {K: 5, A: at - 1, N: 1, Secret: true}, {K: 12, A: at - 1, Secret: true}, {K: 3, A: at - 1, B: at, Secret: true}} {
				right := c.Gates[at]
				c.Gates[at] = g
				can(t, c, false, "one wrong gate")
				c.Gates[at] = right
			}
		}
	}
	can(t, api.Circuit{Gates: make([]api.Gate, 8000), Secrets: 1000, Publics: 1000}, true, "all at their bounds")
}

// P15.1: outputs' gates, and none at all.
func TestCanOuts(t *testing.T) {
	can(t, api.Circuit{}, true, "nothing")
	can(t, api.Circuit{Gates: []api.Gate{}, Outs: []api.Out{}}, true, "empty lists")
	for _, at := range []int{0, 1, -1, 5, math.MaxInt, math.MinInt} {
		can(t, api.Circuit{Outs: []api.Out{{Name: "o", At: at}}}, false, "an output of no gates")
	}
	for at, want := range map[int]bool{0: true, 1: true, 4: true, 5: false, 6: false, -1: false, -5: false, 1 << 32: false, -1 << 32: false, math.MaxInt: false, math.MinInt: false} {
		for _, l := range [][]api.Out{{{Name: "o", At: at}}, {{Name: "o", At: at}, {Name: "p", At: 4}}, {{Name: "o", At: 0}, {Name: "p", At: 2}, {Name: "q", At: at}}, {{}, {}, {At: at}, {}}} {
			c := ahead()
			c.Outs = l
			can(t, c, want, "outputs")
		}
	}
	c := ahead()
	for k := range 20000 {
		c.Outs = append(c.Outs, api.Out{Name: []string{"", "o", "0 ?", "out"}[k%4], At: k % 5})
	}
	can(t, c, true, "many outputs of any names")
}

// plainCan is an account of its own of whether c can be.
func plainCan(c api.Circuit) bool {
	if c.Secrets < 0 || c.Publics < 0 || c.Secrets > 1000 || c.Publics > 1000 || len(c.Gates) > 8000 {
		return false
	}
	secret := map[int]bool{}
	for k, g := range c.Gates {
		if g.K < 0 || g.K > 11 {
			return false
		}
		kind := kinds[g.K]
		numbers := map[string]int{"GSec": c.Secrets, "GPub": c.Publics}
		if most, is := numbers[kind.name]; is {
			kind.number = most
		}
		if int(g.N) >= kind.number {
			return false
		}
		for _, part := range []struct {
			at    int
			taken bool
		}{{g.A, kind.a}, {g.B, kind.b}} {
			if _, is := secret[part.at]; part.taken && !is || !part.taken && part.at != 0 {
				return false
			}
		}
		secret[k] = kind.name == "GSec" || kind.a && secret[g.A] || kind.b && secret[g.B]
		if secret[k] != g.Secret {
			return false
		}
	}
	for _, o := range c.Outs {
		if _, is := secret[o.At]; !is {
			return false
		}
	}
	return true
}

// P15.1: any one gate behind others.
func TestCanAnyGate(t *testing.T) {
	found := 0
	for k := -2; k < 15; k++ {
		for a := -2; a < 8; a++ {
			for b := -2; b < 8; b++ {
				for _, n := range []uint32{0, 1, 2, 3, 31, 32, 1<<32 - 1} {
					for _, secret := range []bool{false, true} {
						c := with(api.Gate{K: k, A: a, B: b, N: n, Secret: secret})
						want := plainCan(c)
						if got := circ.Can(c); got != want {
							t.Errorf("Can of %s: %v", tell(c), got)
						}
						if want {
							found++
						}
					}
				}
			}
		}
	}
	if found < 200 {
		t.Errorf("just %d can be", found)
	}
}

// drawn is any circuit that can be, of so many gates.
func drawn(r *rand.Rand, many int) api.Circuit {
	c := api.Circuit{Secrets: 1 + r.Intn(4), Publics: 1 + r.Intn(4)}
	for k := range many {
		g := api.Gate{K: r.Intn(12)}
		if k == 0 {
			g.K = r.Intn(3)
		}
		kind := kinds[g.K]
		if kind.a {
			g.A = r.Intn(k)
			g.Secret = c.Gates[g.A].Secret
		}
		if kind.b {
			g.B = r.Intn(k)
			g.Secret = g.Secret || c.Gates[g.B].Secret
		}
		switch g.K {
		case 0:
			g.N = []uint32{r.Uint32(), 0, 1, 1<<32 - 1, 1 << 31}[r.Intn(5)]
		case 1:
			g.N, g.Secret = uint32(r.Intn(c.Secrets)), true
		case 2:
			g.N = uint32(r.Intn(c.Publics))
		case 6, 7, 8:
			g.N = uint32(r.Intn(32))
		}
		c.Gates = append(c.Gates, g)
	}
	for k := range r.Intn(5) * min(many, 1) {
		c.Outs = append(c.Outs, api.Out{Name: fmt.Sprint("o", k), At: r.Intn(many)})
	}
	return c
}

// P15.1, P15.2: any circuits, and any that were changed in one place.
func TestAnyCircuits(t *testing.T) {
	r := rand.New(rand.NewSource(15))
	found := map[bool]int{}
	for k := range 20000 {
		c := drawn(r, k%40)
		can(t, c, true, "a drawn circuit")
		hold(t, c, some(r), some(r))
		if len(c.Gates) == 0 {
			continue
		}
		g := &c.Gates[r.Intn(len(c.Gates))]
		switch r.Intn(7) {
		case 0:
			g.K = r.Intn(15) - 1
		case 1:
			g.A = r.Intn(len(c.Gates)+3) - 1
		case 2:
			g.B = r.Intn(len(c.Gates)+3) - 1
		case 3:
			g.N = []uint32{0, 1, 2, 31, 32, 1<<32 - 1}[r.Intn(6)]
		case 4:
			g.Secret = !g.Secret
		case 5:
			c.Outs = append(c.Outs, api.Out{At: r.Intn(len(c.Gates)+4) - 2})
		case 6:
			c.Secrets, c.Publics = r.Intn(6)-1, r.Intn(6)-1
		}
		want := plainCan(c)
		found[want]++
		can(t, c, want, "a changed circuit")
		hold(t, c, some(r), some(r))
	}
	if found[true] < 3000 || found[false] < 3000 {
		t.Errorf("just %v", found)
	}
}

// some is a list of up to six words.
func some(r *rand.Rand) []uint32 {
	l := make([]uint32, r.Intn(7))
	for k := range l {
		l[k] = []uint32{r.Uint32(), r.Uint32(), 0, 1, 1 << 31, 1<<32 - 1}[r.Intn(6)]
	}
	return l
}

// modulo is a modulo 2^32.
func modulo(a *big.Int) *big.Int {
	return a.Mod(a, new(big.Int).Lsh(big.NewInt(1), 32))
}

// plainWords is an account of its own of the words of gates.
func plainWords(c api.Circuit, secrets, publics []uint32) []uint32 {
	var all []*big.Int
	input := func(l []uint32, n uint32) *big.Int {
		return big.NewInt(int64(append(slices.Clone(l), make([]uint32, 1000)...)[n]))
	}
	for _, g := range c.Gates {
		x := new(big.Int)
		var a, b *big.Int
		if kinds[g.K].a {
			a = all[g.A]
		}
		if kinds[g.K].b {
			b = all[g.B]
		}
		switch kinds[g.K].name {
		case "GConst":
			x.SetUint64(uint64(g.N))
		case "GSec":
			x = input(secrets, g.N)
		case "GPub":
			x = input(publics, g.N)
		case "GAnd":
			x.And(a, b)
		case "GXor":
			x.Xor(a, b)
		case "GNot":
			x.Not(a)
		case "GShl":
			x.Lsh(a, uint(g.N))
		case "GShr":
			x.Rsh(a, uint(g.N))
		case "GRot":
			x.Lsh(a, uint(g.N))
			x.Or(x, new(big.Int).Rsh(x, 32))
		case "GOr":
			x.Or(a, b)
		case "GAdd":
			x.Add(a, b)
		case "GSub":
			x.Sub(a, b)
		}
		all = append(all, modulo(x))
	}
	l := make([]uint32, len(all))
	for k, x := range all {
		l[k] = uint32(x.Uint64())
	}
	return l
}

// hold looks that the words of c are those of the plain account, of these inputs, and that these are left as they were.
func hold(t *testing.T, c api.Circuit, secrets, publics []uint32) {
	t.Helper()
	s, p, gates, all := slices.Clone(secrets), slices.Clone(publics), slices.Clone(c.Gates), slices.Clone(c.Outs)
	var want, outs []uint32
	if plainCan(c) {
		want = plainWords(c, secrets, publics)
		for _, o := range c.Outs {
			outs = append(outs, want[o.At])
		}
	}
	if got := circ.Words(c, secrets, publics); !slices.Equal(got, want) {
		t.Errorf("Words of %s, %v, %v: %v, not %v", tell(c), s, p, got, want)
	}
	if got := circ.Outs(c, secrets, publics); !slices.Equal(got, outs) {
		t.Errorf("Outs of %s, %v, %v: %v, not %v", tell(c), s, p, got, outs)
	}
	if !slices.Equal(secrets, s) || !slices.Equal(publics, p) || !slices.Equal(c.Gates, gates) || !slices.Equal(c.Outs, all) {
		t.Errorf("%v, %v were changed to %v, %v, or the circuit to %s", s, p, secrets, publics, tell(c))
	}
}

// P15.2: the word of each kind of gate, by numbers that stand here.
func TestWords(t *testing.T) {
	const top, all = 1 << 31, 1<<32 - 1
	for _, x := range []struct {
		g          api.Gate
		a, b, want uint32
	}{
		{api.Gate{K: 3}, 12, 10, 8}, {api.Gate{K: 3}, all, 0x12345678, 0x12345678}, {api.Gate{K: 4}, 12, 10, 6}, {api.Gate{K: 4}, all, all, 0}, {api.Gate{K: 5}, 0, 9, all}, {api.Gate{K: 5}, 0xffff0000, 9, 0xffff},
		{api.Gate{K: 6}, 0x80000001, 9, 0x80000001}, {api.Gate{K: 6, N: 1}, 0x80000001, 9, 2}, {api.Gate{K: 6, N: 31}, 0xfffffffd, 9, top}, {api.Gate{K: 6, N: 31}, 2, 9, 0}, {api.Gate{K: 6, N: 4}, 0x12345678, 9, 0x23456780},
		{api.Gate{K: 7}, 0x80000001, 9, 0x80000001}, {api.Gate{K: 7, N: 1}, 0x80000001, 9, 0x40000000}, {api.Gate{K: 7, N: 31}, all, 9, 1}, {api.Gate{K: 7, N: 31}, top - 1, 9, 0}, {api.Gate{K: 7, N: 4}, 0xf2345678, 9, 0xf234567},
		{api.Gate{K: 8}, 0x80000001, 9, 0x80000001}, {api.Gate{K: 8, N: 1}, 0x80000001, 9, 3}, {api.Gate{K: 8, N: 31}, 0x80000001, 9, 0xc0000000}, {api.Gate{K: 8, N: 4}, 0x12345678, 9, 0x23456781},
		{api.Gate{K: 9}, 12, 10, 14}, {api.Gate{K: 9}, 0, 0, 0}, {api.Gate{K: 10}, 12, 10, 22}, {api.Gate{K: 10}, all, 1, 0}, {api.Gate{K: 10}, all, all, all - 1}, {api.Gate{K: 10}, top, top, 0}, {api.Gate{K: 11}, 12, 10, 2}, {api.Gate{K: 11}, 10, 12, all - 1}, {api.Gate{K: 11}, 0, 1, all}, {api.Gate{K: 11}, 0, top, top}, {api.Gate{K: 11}, 0, all, 1},
	} {
		// Of inputs of both sorts, and of numbers.
		for k, l := range [][]api.Gate{{{K: 1, Secret: true}, {K: 1, N: 1, Secret: true}}, {{K: 2}, {K: 2, N: 1}}, {{K: 0, N: x.a}, {K: 0, N: x.b}}, {{K: 1, Secret: true}, {K: 0, N: x.b}}, {{K: 0, N: x.a}, {K: 2, N: 1}}} {
			g := x.g
			g.Secret = k == 0 || k == 3
			c := api.Circuit{Secrets: 2, Publics: 2, Gates: append(l, g), Outs: []api.Out{{Name: "o", At: 2}, {Name: "p", At: 0}, {Name: "o", At: 2}}}
			if kinds[g.K].b {
				c.Gates[2].B = 1
			}
			if got := circ.Words(c, words(x.a, x.b), words(x.a, x.b)); !slices.Equal(got, words(x.a, x.b, x.want)) {
				t.Errorf("Words of %s: %v, not %d, %d, %d", tell(c), got, x.a, x.b, x.want)
			}
			if got := circ.Outs(c, words(x.a, x.b), words(x.a, x.b)); !slices.Equal(got, words(x.want, x.a, x.want)) {
				t.Errorf("Outs of %s: %v, not %d, %d, %d", tell(c), got, x.want, x.a, x.want)
			}
			hold(t, c, words(x.a, x.b), words(x.a, x.b))
		}
	}
}

// P15.2: each kind, of words at the edges.
func TestWordsOfEdges(t *testing.T) {
	edges := words(0, 1, 2, 3, 0x7ffffffe, 0x7fffffff, 0x80000000, 0x80000001, 0xfffffffe, 0xffffffff, 0x55555555, 0xaaaaaaaa, 0xdeadbeef)
	c := api.Circuit{Secrets: 1, Publics: 1, Gates: []api.Gate{{K: 1, Secret: true}, {K: 2}}}
	for k, kind := range kinds {
		for n := range uint32(32) {
			if kind.a && (n == 0 || kind.number == 32) {
				g := api.Gate{K: k, N: n, Secret: true}
				if kind.b {
					g.B = 1
				}
				c.Gates = append(c.Gates, g)
			}
		}
	}
	for k := range c.Gates {
		c.Outs = append(c.Outs, api.Out{At: len(c.Gates) - 1 - k})
	}
	for _, a := range edges {
		for _, b := range edges {
			hold(t, c, words(a), words(b))
		}
	}
}

// P15.2: inputs that have no word are 0, words beyond the inputs of no matter.
func TestWordsOfInputs(t *testing.T) {
	c := api.Circuit{Secrets: 3, Publics: 2, Gates: []api.Gate{{K: 1, N: 2, Secret: true}, {K: 2, N: 1}, {K: 1, N: 0, Secret: true}, {K: 2, N: 0}, {K: 1, N: 1, Secret: true}, {K: 1, N: 2, Secret: true}}, Outs: []api.Out{{Name: "o", At: 4}, {Name: "o", At: 1}}}
	for _, x := range []struct{ secrets, publics, want, outs []uint32 }{
		{nil, nil, words(0, 0, 0, 0, 0, 0), words(0, 0)}, {words(), words(), words(0, 0, 0, 0, 0, 0), words(0, 0)}, {words(7), words(8), words(0, 0, 7, 8, 0, 0), words(0, 0)}, {words(7, 8), words(9, 10), words(0, 10, 7, 9, 8, 0), words(8, 10)},
		{words(7, 8, 9), words(10, 11), words(9, 11, 7, 10, 8, 9), words(8, 11)}, {words(7, 8, 9, 1, 2, 3), words(10, 11, 1, 2), words(9, 11, 7, 10, 8, 9), words(8, 11)}, {nil, words(10, 11), words(0, 11, 0, 10, 0, 0), words(0, 11)}, {words(7, 8, 9), nil, words(9, 0, 7, 0, 8, 9), words(8, 0)},
	} {
		if got, outs := circ.Words(c, x.secrets, x.publics), circ.Outs(c, x.secrets, x.publics); !slices.Equal(got, x.want) || !slices.Equal(outs, x.outs) {
			t.Errorf("%v, %v: %v, %v, not %v, %v", x.secrets, x.publics, got, outs, x.want, x.outs)
		}
	}
	// The last input there can be.
	c = api.Circuit{Secrets: 1000, Publics: 1000, Gates: []api.Gate{{K: 1, N: 999, Secret: true}, {K: 2, N: 999}}}
	l := make([]uint32, 1001)
	l[998], l[999], l[1000] = 6, 7, 8
	for _, many := range []int{0, 999, 1000, 1001} {
		want := uint32(0)
		if many >= 1000 {
			want = 7
		}
		if got := circ.Words(c, l[:many], l); !slices.Equal(got, words(want, 7)) {
			t.Errorf("%d words: %v", many, got)
		}
		if got := circ.Words(c, l, l[:many]); !slices.Equal(got, words(7, want)) {
			t.Errorf("%d words: %v", many, got)
		}
	}
	if got := circ.Words(api.Circuit{Secrets: 2}, words(1), words(2)); len(got) > 0 {
		t.Errorf("no gates: %v", got)
	}
}

// P15.2: outputs may be many of one gate.
func TestOutsOfOneGate(t *testing.T) {
	c := ahead()
	var want []uint32
	for k := range 20000 {
		c.Outs = append(c.Outs, api.Out{At: k * k % 5})
		want = append(want, words(5, 9, 3, 12, 1<<32-4)[k*k%5])
	}
	if got := circ.Outs(c, words(9), words(3)); !slices.Equal(got, want) {
		t.Errorf("%s", tell(got))
	}
}

// What is handed in is not changed, its spare room neither, and what is told is new memory.
func TestSpareRoom(t *testing.T) {
	c := with(api.Gate{K: 10, A: 1, B: 2, Secret: true}, api.Gate{K: 99}, api.Gate{K: 98})
	c.Gates = c.Gates[:6]
	outs := []api.Out{{Name: "o", At: 5}, {Name: "p", At: 2}, {Name: "far", At: 99}}
	c.Outs = outs[:2]
	secrets, publics := words(3, 77, 78), words(4, 79)
	all, out := circ.Words(c, secrets[:1], publics[:1]), circ.Outs(c, secrets[:1], publics[:1])
	if !slices.Equal(all, words(5, 3, 4, 6, 1<<32-5, 7)) || !slices.Equal(out, words(7, 4)) || !circ.Can(c) {
		t.Errorf("%v, %v", all, out)
	}
	for _, l := range [][]uint32{all, out} {
		l = l[:cap(l)]
		for k := range l {
			l[k] = 1234
		}
	}
	if !slices.Equal(secrets, words(3, 77, 78)) || !slices.Equal(publics, words(4, 79)) || c.Gates[:7][6].K != 99 || c.Gates[:8][7].K != 98 || !slices.Equal(outs, []api.Out{{Name: "o", At: 5}, {Name: "p", At: 2}, {Name: "far", At: 99}}) {
		t.Errorf("changed: %v, %v, %s, %v", secrets, publics, tell(c), outs)
	}
	if again, other := circ.Words(c, secrets[:1], publics[:1]), circ.Outs(c, secrets[:1], publics[:1]); !slices.Equal(again, words(5, 3, 4, 6, 1<<32-5, 7)) || !slices.Equal(other, words(7, 4)) {
		t.Errorf("%v, %v", again, other)
	}
}
