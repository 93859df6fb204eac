package lower_test

import (
	"slices"
	"testing"

	"bauta/api"
	"bauta/circ"
	"bauta/lower"
)

// comesTo is how many gates stand for one that does not stand by itself.
var comesTo = map[int]int{9: 4, 10: 27, 11: 29}

// chain is a circuit of so many gates, each of the one ahead turned, the first one an input; at some places gates of other kinds, of the gate ahead twice.
func chain(many int, kinds map[int]int) api.Circuit {
	c := api.Circuit{Secrets: 1, Gates: []api.Gate{{K: 1, Secret: true}}}
	for k := 1; k < many; k++ {
		g := api.Gate{K: 5, A: k - 1, Secret: true}
		if kind, is := kinds[k]; is {
			g = api.Gate{K: kind, A: k - 1, B: k - 1, Secret: true}
		}
		c.Gates = append(c.Gates, g)
	}
	c.Outs = []api.Out{{Name: "o", At: many - 1}, {Name: "p", At: 0}, {Name: "q", At: many / 2}}
	return c
}

// fits looks that c comes to so many gates, and to what is right.
func fits(t *testing.T, c api.Circuit, many int) {
	t.Helper()
	ahead := copied(c)
	made, err := lower.Circuit(c)
	if err != api.OK || len(made.Gates) != many || !lower.Plain(made) || made.Secrets != c.Secrets || made.Publics != c.Publics {
		t.Errorf("Circuit of %d gates: %d, %v, not %d", len(c.Gates), len(made.Gates), err, many)
	}
	if !alike(c, ahead) {
		t.Errorf("Circuit of %d gates changed them", len(c.Gates))
	}
	for _, w := range words(0, 1, 1<<31, 1<<32-1, 0xdeadbeef) {
		if got, want := circ.Outs(made, words(w, w/3), words(w/7)), circ.Outs(c, words(w, w/3), words(w/7)); !slices.Equal(got, want) {
			t.Errorf("outputs of %d gates, of %d: %v, not %v", len(c.Gates), w, got, want)
		}
	}
}

// P16.2: just 8000 gates, and one more, by one gate that others stand for, as the last one, in the middle, as the first that may be.
func TestBoundOfOne(t *testing.T) {
	for kind, gates := range comesTo {
		// So many of c have just 8000.
		most := 8001 - gates
		for _, at := range []int{1, 2, 17, most / 2, most - 2, most - 1} {
			fits(t, chain(most-1, map[int]int{min(at, most-2): kind}), 7999)
			fits(t, chain(most, map[int]int{at: kind}), 8000)
			told(t, chain(most+1, map[int]int{at: kind}), api.Circuit{}, api.ErrResource)
			told(t, chain(most+1, map[int]int{at + 1: kind}), api.Circuit{}, api.ErrResource)
			told(t, chain(most+2, map[int]int{at: kind}), api.Circuit{}, api.ErrResource)
		}
		for _, many := range []int{most + gates/2, 7999, 8000} {
			for _, at := range []int{1, many / 2, many - 2, many - 1} {
				told(t, chain(many, map[int]int{at: kind}), api.Circuit{}, api.ErrResource)
			}
		}
	}
	// Of words that are no secret, and of which no output hangs on it, too.
	for _, many := range []int{7996, 7997} {
		c := api.Circuit{Gates: make([]api.Gate, many)}
		c.Gates = append(c.Gates, api.Gate{K: 9, A: 5, B: many - 1})
		c.Outs = []api.Out{{Name: "o", At: 3}}
		if many == 7996 {
			fits(t, c, 8000)
		} else {
			told(t, c, api.Circuit{}, api.ErrResource)
		}
	}
}

// P16.2: just 8000 gates, and one more, by many such gates.
func TestBoundOfMany(t *testing.T) {
	every := func(kind, many int) map[int]int {
		l := map[int]int{}
		for k := range many {
			l[k+1] = kind
		}
		return l
	}
	for kind, gates := range comesTo {
		many := 7999 / gates
		rest := 8000 - many*gates
		fits(t, chain(many+rest, every(kind, many)), 8000)
		told(t, chain(many+rest+1, every(kind, many)), api.Circuit{}, api.ErrResource)
		fits(t, chain(many+1, every(kind, many)), 1+many*gates)
		told(t, chain(many+rest, every(kind, many+1)), api.Circuit{}, api.ErrResource)
		told(t, chain(8000, every(kind, 7999)), api.Circuit{}, api.ErrResource)
	}
	// All of them together: 100 times 4, 27 and 29 are 6000.
	mixed := map[int]int{}
	for k := range 100 {
		mixed[7*k+3], mixed[7*k+5], mixed[7*k+8] = 9, 10, 11
	}
	fits(t, chain(2300, mixed), 8000)
	told(t, chain(2301, mixed), api.Circuit{}, api.ErrResource)
}

// P16.2: 8000 gates that are plain stay, and one more can't be.
func TestBoundOfPlain(t *testing.T) {
	for many, want := range map[int]api.Errno{7999: api.OK, 8000: api.OK, 8001: api.ErrArg, 8002: api.ErrArg} {
		c := chain(many, nil)
		if want == api.OK {
			lowered(t, c, c)
		} else {
			told(t, c, api.Circuit{}, want)
		}
	}
	for _, kind := range []int{9, 10, 11} {
		// What can't be is told ahead of what would be too much.
		c := chain(8000, map[int]int{1: kind, 7999: kind})
		c.Outs[2].At = 8000
		told(t, c, api.Circuit{}, api.ErrArg)
		c = chain(8000, map[int]int{1: kind})
		c.Gates[7999].N = 1
		told(t, c, api.Circuit{}, api.ErrArg)
		told(t, chain(8001, map[int]int{8000: kind}), api.Circuit{}, api.ErrArg)
	}
}
