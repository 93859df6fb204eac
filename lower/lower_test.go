package lower_test

import (
	"fmt"
	"math"
	"regexp"
	"slices"
	"strconv"
	"strings"
	"testing"

	"bauta/api"
	"bauta/circ"
	"bauta/lower"
)

// Kinds of gates in numbers, as the document has them, by the signs that stand for them here.
var kinds = map[string]int{"#": 0, "s": 1, "p": 2, "&": 3, "^": 4, "~": 5, "<<": 6, ">>": 7, "<<<": 8, "|": 9, "+": 10, "-": 11}

// written is a gate as the tests here write it.
var written = regexp.MustCompile(`^(\d*)([^\d*]+)(\d+)(\*?)$`)

// circuit reads a circuit: s0 and p0 are inputs, #7 is a number, ~0 the gate 0 turned, 0&1 what is made of the gates 0 and 1, 0<<3 the gate 0 shifted by 3, each with a * behind it, if it is secret; o=4: the output o is the gate 4. It has three inputs of each sort.
func circuit(t *testing.T, s string) api.Circuit {
	t.Helper()
	c := api.Circuit{Secrets: 3, Publics: 3}
	for _, one := range strings.Fields(s) {
		if o, at, is := strings.Cut(one, "="); is {
			c.Outs = append(c.Outs, api.Out{Name: o, At: number(t, at)})
			continue
		}
		l := written.FindStringSubmatch(one)
		if l == nil {
			t.Fatalf("no gate: %q", one)
		}
		g := api.Gate{K: kinds[l[2]], Secret: l[4] != ""}
		switch l[2] {
		case "#", "s", "p":
			g.N = uint32(number(t, l[3]))
		case "~":
			g.A = number(t, l[3])
		case "<<", ">>", "<<<":
			g.A, g.N = number(t, l[1]), uint32(number(t, l[3]))
		default:
			g.A, g.B = number(t, l[1]), number(t, l[3])
		}
		c.Gates = append(c.Gates, g)
	}
	return c
}

func number(t *testing.T, s string) int {
	t.Helper()
	n, err := strconv.Atoi(s)
	if err != nil {
		t.Fatalf("no number: %q", s)
	}
	return n
}

// tell is what a test was about as a text, as far as it is of use.
func tell(x any) string {
	return fmt.Sprintf("%.900s", fmt.Sprintf("%+v", x))
}

// words are a list of them.
func words(l ...uint32) []uint32 { return l }

// copied is c in memory of its own.
func copied(c api.Circuit) api.Circuit {
	c.Gates, c.Outs = slices.Clone(c.Gates), slices.Clone(c.Outs)
	return c
}

// alike tells whether two circuits are the same. Nil and empty lists are.
func alike(a, b api.Circuit) bool {
	return slices.Equal(a.Gates, b.Gates) && slices.Equal(a.Outs, b.Outs) && a.Secrets == b.Secrets && a.Publics == b.Publics
}

// told looks that Circuit tells just this of c, and leaves it as it was.
func told(t *testing.T, c, want api.Circuit, e api.Errno) {
	t.Helper()
	ahead := copied(c)
	got, err := lower.Circuit(c)
	if !alike(got, want) || err != e {
		t.Errorf("Circuit of %s: %s, %v, not %s, %v", tell(c), tell(got), err, tell(want), e)
	}
	if !alike(c, ahead) {
		t.Errorf("Circuit changed %s to %s", tell(ahead), tell(c))
	}
}

// lowered looks that Circuit tells just that of c, and that it is what the document says of it.
func lowered(t *testing.T, c, want api.Circuit) {
	t.Helper()
	told(t, c, want, api.OK)
	// What is plain already stays.
	told(t, want, want, api.OK)
	if !circ.Can(want) || !lower.Plain(want) {
		t.Errorf("%s of %s can't be, or is not plain", tell(want), tell(c))
	}
	for k, o := range want.Outs {
		if want.Gates[o.At].Secret != c.Gates[c.Outs[k].At].Secret {
			t.Errorf("the output %d of %s, of %s", k, tell(want), tell(c))
		}
	}
	for _, l := range [][]uint32{nil, {1<<32 - 1, 1<<32 - 1}, {0xdeadbeef, 0x12345678, 5}} {
		for _, m := range [][]uint32{nil, {1}, {0x80000001, 0xffff0000, 3}} {
			same(t, c, want, l, m)
		}
	}
}

// same looks that both circuits have the same outputs' words, of these inputs.
func same(t *testing.T, c, made api.Circuit, secrets, publics []uint32) {
	t.Helper()
	if got, want := circ.Outs(made, secrets, publics), circ.Outs(c, secrets, publics); !slices.Equal(got, want) {
		t.Errorf("outputs of %s, of %s, %v, %v: %v, not %v", tell(made), tell(c), secrets, publics, got, want)
	}
}

// comes looks that just that circuit comes of c, both as the tests write them.
func comes(t *testing.T, c, want string) {
	t.Helper()
	lowered(t, circuit(t, c), circuit(t, want))
}

// asked looks that Plain and Ands tell just this of c, and leave it as it was.
func asked(t *testing.T, c api.Circuit, plain bool, ands int) {
	t.Helper()
	ahead := copied(c)
	if got := lower.Plain(c); got != plain {
		t.Errorf("Plain of %s: %v", tell(c), got)
	}
	if got := lower.Ands(c); got != ands {
		t.Errorf("Ands of %s: %d, not %d", tell(c), got, ands)
	}
	if !alike(c, ahead) {
		t.Errorf("%s was changed to %s", tell(ahead), tell(c))
	}
}

// P16.1: each kind of gate, wherever it stands.
func TestPlain(t *testing.T) {
	for s, plain := range map[string]bool{"#5": true, "s2*": true, "p1": true, "0&1*": true, "0^1*": true, "~0*": true, "0<<3*": true, "0>>3*": true, "0<<<3*": true, "0|1*": false, "0+1*": false, "0-1*": false} {
		for _, c := range []string{"s0* p0 " + s, "s0* p0 " + s + " o=2", "s0* p0 " + s + " #7 3&3", "s0* p0 ~1 1>>1 0^1* " + s + " o=0 p=1"} {
			asked(t, circuit(t, c), plain, 0)
		}
		// Of words that are no secret, too.
		if s != "s2*" {
			asked(t, circuit(t, "p0 p1 "+strings.TrimSuffix(s, "*")), plain, 0)
		}
	}
	asked(t, circuit(t, "s0* s1* 0+1*"), false, 0)
	asked(t, circuit(t, "s0* s1* 0|1* 0-1* 0+1* 0&1* o=5"), false, 1)
	asked(t, circuit(t, "s0* s1* p0 p1 #9 0&1* 2^3 ~4 0<<0* 1>>31* 5<<<31* o=10 p=0"), true, 1)
	// Whether an output hangs on it is of no matter.
	asked(t, circuit(t, "p0 p1 0|1 o=0"), false, 0)
	asked(t, circuit(t, "p0 p1 0+1 o=0"), false, 0)
	asked(t, circuit(t, "p0 p1 0-1 o=0"), false, 0)
}

// P16.1: of no gates, whatever inputs there are.
func TestNoGates(t *testing.T) {
	for _, secrets := range []int{0, 1, 999, 1000} {
		for _, publics := range []int{0, 1, 999, 1000} {
			c := api.Circuit{Secrets: secrets, Publics: publics}
			asked(t, c, true, 0)
			lowered(t, c, c)
			c.Gates, c.Outs = []api.Gate{}, []api.Out{}
			asked(t, c, true, 0)
			lowered(t, c, c)
		}
	}
}

// P16.1: just GAnds count, and of these just those that take two secrets.
func TestAnds(t *testing.T) {
	for s, ands := range map[string]int{
		"s0* s1* 0&1* o=2": 1, "s0* s1* 1&0*": 1, "s0* 0&0*": 1, "s0* p0 0&1*": 0, "s0* p0 1&0*": 0, "p0 p1 0&1": 0, "p0 0&0": 0, "#1 s0* 0&1*": 0, "#1 s0* 1&0*": 0, "#1 #2 0&1": 0,
		"s0* s1* p0 0&2* 1&2* 3&4*": 1, "s0* p0 0&1* 2&0* 3&2* 1&4* 5&0*": 3, "s0* 0&0* 1&1* 2&2* 3&3*": 4,
		// What is secret by what it takes.
		"s0* p0 ~0* 1^0* 2&3*": 1, "s0* p0 0<<3* 0>>3* 0<<<3* 2&3* 3&4* 4&2* 4&1*": 3, "s0* p0 0|1* 1+0* 0-1* 2&3* 3&4* 4&2* 4&1* 1&2*": 3,
		"s0* p0 ~1 1<<2 1^2 0&2* 0&3* 4&0*": 0, "s0* p0 1|1 1+1 1-1 0&2* 3&0* 0&4*": 0, "s0* #0 0&1* 0&2*": 1,
		// Others that take two secrets.
		"s0* s1* 0^1* 0|1* 0+1* 0-1*": 0, "s0* s1* 0|1* 0+1* 0-1* 0&1* 0^1*": 1, "s0* s1*": 0, "": 0,
	} {
		c := circuit(t, s)
		plain := !strings.ContainsAny(s, "|+-")
		asked(t, c, plain, ands)
		if len(c.Gates) > 0 {
			c.Outs = append(c.Outs, api.Out{Name: "z"})
			asked(t, c, plain, ands)
		}
	}
	c := circuit(t, "s0* s1* p0")
	for k := range 7997 {
		c.Gates = append(c.Gates, api.Gate{K: 3, A: k % 3, B: k / 3 % 3, Secret: k%9 < 8})
	}
	// Of the nine pairs of three gates four are of two secrets.
	asked(t, c, true, 7997/9*4+4)
}

// bases are circuits in which all kinds of gates are that may be there, with two ands of secrets: a plain one, and one that is not.
func bases(t *testing.T) []api.Circuit {
	const plain = "s0* s1* p0 #5 0&1* 0^2* ~2 0<<3* 2>>4 0<<<5* 5&4* "
	return []api.Circuit{circuit(t, plain+"o=4 q=10"), circuit(t, plain+"0|2* 0+1* 2-3 o=13 q=12 r=11")}
}

// refused looks that c, which can't be, is told to be nothing.
func refused(t *testing.T, c api.Circuit) {
	t.Helper()
	asked(t, c, false, 0)
	told(t, c, api.Circuit{}, api.ErrArg)
}

// P16.1, P16.2: circuits that can't be, by one thing in one gate.
func TestWrongGates(t *testing.T) {
	asked(t, bases(t)[0], true, 2)
	asked(t, bases(t)[1], false, 2)
	for _, c := range bases(t) {
		for k, right := range c.Gates {
			changed := func(change func(g *api.Gate)) {
				t.Helper()
				change(&c.Gates[k])
				refused(t, c)
				c.Gates[k] = right
			}
			for _, kind := range []int{-1, 12, 13, 99, 1 << 32, math.MaxInt, math.MinInt} {
				changed(func(g *api.Gate) { g.K = kind })
			}
			for _, at := range []int{k, k + 1, len(c.Gates), len(c.Gates) + 1, -1, 8000, 1 << 32, math.MaxInt, math.MinInt} {
				if at != 0 {
					changed(func(g *api.Gate) { g.A = at })
					changed(func(g *api.Gate) { g.B = at })
				}
			}
			changed(func(g *api.Gate) { g.Secret = !g.Secret })
			if right.K != 0 {
				changed(func(g *api.Gate) { g.N = 32 })
				changed(func(g *api.Gate) { g.N = 1<<32 - 1 })
			}
			switch right.K {
			case 0, 1, 2:
				changed(func(g *api.Gate) { g.A = 1 })
				changed(func(g *api.Gate) { g.B = 1 })
			case 5, 6, 7, 8:
				changed(func(g *api.Gate) { g.B = 1 })
			}
			switch right.K {
			case 1, 2:
				changed(func(g *api.Gate) { g.N = 3 })
			case 3, 4, 5, 9, 10, 11:
				changed(func(g *api.Gate) { g.N = 1 })
			}
		}
	}
	refused(t, api.Circuit{Gates: []api.Gate{{K: 5}}})
	refused(t, api.Circuit{Gates: []api.Gate{{K: 3}}})
	refused(t, api.Circuit{Gates: []api.Gate{{K: 10}}})
	refused(t, api.Circuit{Gates: []api.Gate{{K: 1}}, Secrets: 1})
}

// P16.1, P16.2: circuits that can't be, by their inputs, by an output, by how many gates they have.
func TestWrongCircuits(t *testing.T) {
	for k := range bases(t) {
		changed := func(change func(c *api.Circuit)) {
			t.Helper()
			c := bases(t)[k]
			change(&c)
			refused(t, c)
		}
		for _, inputs := range []int{-1, 1001, 8000, 1 << 32, math.MaxInt, math.MinInt} {
			changed(func(c *api.Circuit) { c.Secrets = inputs })
			changed(func(c *api.Circuit) { c.Publics = inputs })
		}
		changed(func(c *api.Circuit) { c.Secrets = 1 })
		changed(func(c *api.Circuit) { c.Publics = 0 })
		for _, at := range []int{-1, len(bases(t)[k].Gates), 8000, 1 << 32, math.MaxInt, math.MinInt} {
			changed(func(c *api.Circuit) { c.Outs[0].At = at })
			changed(func(c *api.Circuit) { c.Outs[1].At = at })
			changed(func(c *api.Circuit) { c.Outs = append(c.Outs, api.Out{Name: "z", At: at}) })
		}
		changed(func(c *api.Circuit) { c.Gates = append(c.Gates, make([]api.Gate, 8001-len(c.Gates))...) })
		changed(func(c *api.Circuit) { c.Gates = nil })
	}
	refused(t, api.Circuit{Gates: make([]api.Gate, 8001)})
	refused(t, api.Circuit{Secrets: -1})
	refused(t, api.Circuit{Publics: 1001})
	refused(t, api.Circuit{Outs: []api.Out{{}}})
}

// P16.2: the document's example, and what it says of a GSub and a GOr, gate by gate.
func TestExamples(t *testing.T) {
	comes(t, "s0* s1* 0+1* o=2", "s0* s1* 0^1* 0&1* 3<<1* 2&4* 3^5* 2<<1* 2&7* 6<<2* 8&9* 6^10* 8<<2* 8&12* 11<<4* 13&14* 11^15* 13<<4* 13&17* 16<<8* 18&19* 16^20* 18<<8* 18&22* 21<<16* 23&24* 21^25* 26<<1* 2^27* o=28")
	comes(t, "s0* s1* 0-1* o=2", "s0* s1* ~0* 2^1* 2&1* 4<<1* 3&5* 4^6* 3<<1* 3&8* 7<<2* 9&10* 7^11* 9<<2* 9&13* 12<<4* 14&15* 12^16* 14<<4* 14&18* 17<<8* 19&20* 17^21* 19<<8* 19&23* 22<<16* 24&25* 22^26* 27<<1* 3^28* ~29* o=30")
	comes(t, "s0* s1* 0|1* o=2", "s0* s1* ~0* ~1* 2&3* ~4* o=5")
}

// P16.2: gates that stand by themselves, as they were.
func TestPlainGates(t *testing.T) {
	for _, s := range []string{
		"#0 o=0", "#4294967295 #7 o=1 p=0", "s2* o=0", "p2 o=0", "p2 s1* p2 s1* s0* p0 o=3 p=0",
		"s0* s1* p0 p1 0&1* 0&2* 2&0* 2&3 0&0* 2&2 o=9 p=4", "s0* s1* p0 p1 0^1* 0^2* 2^0* 2^3 0^0* 2^2 o=9 p=4", "s0* p0 ~0* ~1 ~2* ~2* o=5 p=3",
		"s0* p0 0<<0* 0<<1* 1<<31 0>>0* 0>>1* 1>>31 0<<<0* 0<<<1* 1<<<31 10<<<16 o=2 p=3 q=4 r=5 s=6 t=7 u=8 v=9 w=10 x=11",
		"s0* p0 1^0* ~2* 3&2* 4<<7* 1>>3 5^6* 7<<<9* o=8 p=4", "s0* s1* s2* p0 p1 p2", "#1 #2 s0* 0&1 o=0",
	} {
		comes(t, s, s)
	}
	for _, c := range bases(t)[:1] {
		lowered(t, c, c)
	}
	// Any numbers of inputs stay, and so do numbers of any size.
	for _, inputs := range []int{1, 2, 999, 1000} {
		c := api.Circuit{Secrets: inputs, Publics: 1001 - inputs, Gates: []api.Gate{{K: 1, N: uint32(inputs - 1), Secret: true}, {K: 2, N: uint32(1000 - inputs)}, {K: 0, N: 1<<32 - 1}, {K: 0, N: 1 << 31}}}
		lowered(t, c, c)
		both, or := c, []api.Gate{{K: 5, A: 0, Secret: true}, {K: 5, A: 1}, {K: 3, A: 4, B: 5, Secret: true}, {K: 5, A: 6, Secret: true}}
		both.Gates = append(slices.Clone(c.Gates), or...)
		c.Gates = append(c.Gates, api.Gate{K: 9, A: 0, B: 1, Secret: true})
		lowered(t, c, both)
	}
}

// P16.2: a GOr of all that it may take.
func TestOrs(t *testing.T) {
	comes(t, "s0* p0 0|1* o=2", "s0* p0 ~0* ~1 2&3* ~4* o=5")
	comes(t, "s0* p0 1|0* o=2", "s0* p0 ~1 ~0* 2&3* ~4* o=5")
	comes(t, "p0 p1 0|1 o=2", "p0 p1 ~0 ~1 2&3 ~4 o=5")
	comes(t, "#3 p1 1|0 o=2", "#3 p1 ~1 ~0 2&3 ~4 o=5")
	// One gate twice is turned twice.
	comes(t, "s0* 0|0* o=1", "s0* ~0* ~0* 1&2* ~3* o=4")
	comes(t, "p0 0|0 o=1", "p0 ~0 ~0 1&2 ~3 o=4")
	// And so it is by each gate that takes it.
	comes(t, "s0* s1* 0|1* 0|1* 1|0* o=2 p=3 q=4", "s0* s1* ~0* ~1* 2&3* ~4* ~0* ~1* 6&7* ~8* ~1* ~0* 10&11* ~12* o=5 p=9 q=13")
	comes(t, "s0* s1* 0|1* 2|1* 0|3* 4|4* o=5", "s0* s1* ~0* ~1* 2&3* ~4* ~5* ~1* 6&7* ~8* ~0* ~9* 10&11* ~12* ~13* ~13* 14&15* ~16* o=17")
	// Behind it the gates are elsewhere.
	comes(t, "s0* p0 0|1* ~2* 2&3* 0^4* 1<<7 5>>2* 2<<<3* #9 p0 6|9 o=0 p=2 q=6 r=11", "s0* p0 ~0* ~1 2&3* ~4* ~5* 5&6* 0^7* 1<<7 8>>2* 5<<<3* #9 p0 ~9 ~12 14&15 ~16 o=0 p=5 q=9 r=17")
}

// P16.2: a GAdd and a GSub of what is no secret, of one that is, of numbers, of one gate twice.
func TestSums(t *testing.T) {
	const sum, difference = "2^1 2&1 4<<1 3&5 4^6 3<<1 3&8 7<<2 9&10 7^11 9<<2 9&13 12<<4 14&15 12^16 14<<4 14&18 17<<8 19&20 17^21 19<<8 19&23 22<<16 24&25 22^26 27<<1 3^28", " ~29 o=30"
	secret := func(s string) string { return strings.Join(strings.Fields(s), "* ") + "*" }
	for _, a := range []string{"p0", "p2", "#0", "#7"} {
		for _, b := range []string{"p1", "p0", "#4294967295"} {
			comes(t, a+" "+b+" 0-1 o=2", a+" "+b+" ~0 "+sum+difference)
			comes(t, a+" "+b+" ~0 2+1 ~3 o=4", a+" "+b+" ~0 "+sum+difference)
			// Just what hangs on a secret is one.
			comes(t, a+" s1* 0-1* o=2", a+" s1* ~0 "+secret(sum+" ~29")+" o=30")
			comes(t, "s2* "+b+" 0-1* o=2", "s2* "+b+" ~0* "+secret(sum+" ~29")+" o=30")
			comes(t, "s2* "+b+" ~0* 2+1* o=3", "s2* "+b+" ~0* "+secret(sum)+" o=29")
			comes(t, a+" s1* ~0 2+1* o=3", a+" s1* ~0 "+secret(sum)+" o=29")
		}
	}
	comes(t, "s0* 0+0* o=1", "s0* 0^0* 0&0* 2<<1* 1&3* 2^4* 1<<1* 1&6* 5<<2* 7&8* 5^9* 7<<2* 7&11* 10<<4* 12&13* 10^14* 12<<4* 12&16* 15<<8* 17&18* 15^19* 17<<8* 17&21* 20<<16* 22&23* 20^24* 25<<1* 1^26* o=27")
	comes(t, "p1 0-0 o=1", "p1 ~0 1^0 1&0 3<<1 2&4 3^5 2<<1 2&7 6<<2 8&9 6^10 8<<2 8&12 11<<4 13&14 11^15 13<<4 13&17 16<<8 18&19 16^20 18<<8 18&22 21<<16 23&24 21^25 26<<1 2^27 ~28 o=29")
}

// P16.2: outputs of what several gates stand for, of what stands by itself, of any names, in any order.
func TestOutputs(t *testing.T) {
	or := "s0* p0 ~0* ~1 2&3* ~4*"
	comes(t, "s0* p0 0|1*", or)
	comes(t, "s0* p0 0|1* o=2 o=2 =2 o=0 p=1 a1=2", or+" o=5 o=5 =5 o=0 p=1 a1=5")
	comes(t, "s0* p0 0|1* z=1 y=0 x=2 w=1", or+" z=1 y=0 x=5 w=1")
	comes(t, "s0* p0 0|1* 1+1 0-1* o=4 p=3 q=2", or+" 1^1 1&1 7<<1 6&8 7^9 6<<1 6&11 10<<2 12&13 10^14 12<<2 12&16 15<<4 17&18 15^19 17<<4 17&21 20<<8 22&23 20^24 22<<8 22&26 25<<16 27&28 25^29 30<<1 6^31"+
		" ~0* 33^1* 33&1* 35<<1* 34&36* 35^37* 34<<1* 34&39* 38<<2* 40&41* 38^42* 40<<2* 40&44* 43<<4* 45&46* 43^47* 45<<4* 45&49* 48<<8* 50&51* 48^52* 50<<8* 50&54* 53<<16* 55&56* 53^57* 58<<1* 34^59* ~60* o=61 p=32 q=5")
	c, made := circuit(t, "s0* p0 0|1*"), circuit(t, or)
	for k := range 20000 {
		c.Outs = append(c.Outs, api.Out{Name: fmt.Sprint("o ", k), At: k * k % 3})
		made.Outs = append(made.Outs, api.Out{Name: fmt.Sprint("o ", k), At: []int{0, 1, 5}[k*k%3]})
	}
	lowered(t, c, made)
}

// P16.4: how many gates, and GAnds, of one more gate.
func TestHowMany(t *testing.T) {
	for s, want := range map[string][2]int{"+": {10, 27}, "-": {10, 29}, "|": {1, 4}, "&": {1, 1}, "^": {0, 1}} {
		for _, ahead := range []string{"s0* s1*", "s0* p1", "p0 s1*", "p0 p1", "s0* s1* 0|1* 0-1*", "s0* p0 0+1* 1-0*"} {
			star := ""
			if strings.Contains(ahead, "*") {
				star = "*"
			}
			before, err := lower.Circuit(circuit(t, ahead))
			behind, e := lower.Circuit(circuit(t, ahead+" 0"+s+"1"+star))
			if got := [2]int{ands(behind) - ands(before), len(behind.Gates) - len(before.Gates)}; got != want || err != api.OK || e != api.OK {
				t.Errorf("%s behind %s: %v GAnds and gates, not %v, %v, %v", s, ahead, got, want, err, e)
			}
			if got := lower.Ands(behind) - lower.Ands(before); strings.HasPrefix(ahead, "s0* s1*") && got != want[0] {
				t.Errorf("%s behind %s: %d Ands", s, ahead, got)
			}
		}
	}
}

// ands is how many GAnds there are, of whatever words.
func ands(c api.Circuit) int {
	many := 0
	for _, g := range c.Gates {
		if g.K == 3 {
			many++
		}
	}
	return many
}

// What is handed in is not changed, its spare room neither, and what is told shares no list with it or with what is told another time.
func TestMemory(t *testing.T) {
	for s, want := range map[string]string{
		"s0* p0 0|1* ~2* o=3 p=1": "s0* p0 ~0* ~1 2&3* ~4* ~5* o=6 p=1",
		"s0* p0 0&1* ~2* o=3 p=1": "s0* p0 0&1* ~2* o=3 p=1",
	} {
		c := circuit(t, s)
		gates := append(c.Gates, api.Gate{K: 99, A: 7}, api.Gate{K: 98})
		outs := append(c.Outs, api.Out{Name: "far", At: 99})
		c.Gates, c.Outs = gates[:4], outs[:2]
		ahead := copied(api.Circuit{Gates: gates, Outs: outs})
		first, _ := lower.Circuit(c)
		second, _ := lower.Circuit(c)
		for _, made := range []api.Circuit{first, second} {
			if !alike(made, circuit(t, want)) {
				t.Errorf("Circuit of %s: %s", s, tell(made))
			}
			l, o := made.Gates[:cap(made.Gates)], made.Outs[:cap(made.Outs)]
			for k := range l {
				l[k] = api.Gate{K: 77}
			}
			for k := range o {
				o[k] = api.Out{Name: "none", At: -1}
			}
		}
		if !alike(api.Circuit{Gates: gates, Outs: outs}, ahead) {
			t.Errorf("%s was changed to %s, %s", s, tell(gates), tell(outs))
		}
		lowered(t, c, circuit(t, want))
	}
}
