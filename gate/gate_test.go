package gate_test

import (
	"math"
	"testing"

	"bauta/api"
	"bauta/gate"
)

// Kinds as the document has them, in numbers, each with how many gates it takes.
var takes = []int{0, 0, 0, 2, 2, 1, 1, 1, 1, 2, 2, 2}

// P15.1: how many gates each kind takes; none of a kind that there is none of.
func TestTakes(t *testing.T) {
	for k, want := range takes {
		if got := gate.Takes(k); got != want {
			t.Errorf("Takes(%d): %d, not %d", k, got, want)
		}
	}
	for _, k := range []int{-1, -2, 12, 13, 99, math.MaxInt, math.MinInt} {
		if got := gate.Takes(k); got != 0 {
			t.Errorf("Takes(%d): %d", k, got)
		}
	}
}

// P15.1: secret is a secret input, and what takes a secret gate, where it takes one.
func TestSecret(t *testing.T) {
	l := []api.Gate{{K: 1, Secret: true}, {K: 2}, {K: 5, Secret: true}, {K: 0}}
	for k, taken := range takes {
		for a := range l {
			for b := range l {
				want := k == 1 || taken > 0 && a%2 == 0 || taken > 1 && b%2 == 0
				for _, said := range []bool{false, true} {
					g := api.Gate{K: k, A: a, B: b, N: 7, Secret: said}
					if got := gate.Secret(l, g); got != want {
						t.Errorf("Secret of %+v: %v", g, got)
					}
				}
			}
		}
	}
	for k, taken := range takes {
		if taken > 0 {
			// Just the gates' own mark counts, not what they are.
			if gate.Secret([]api.Gate{{K: 1}}, api.Gate{K: k}) || !gate.Secret([]api.Gate{{K: 0, Secret: true}}, api.Gate{K: k}) {
				t.Errorf("Secret of the kind %d", k)
			}
		} else if got := gate.Secret(nil, api.Gate{K: k}); got != (k == 1) {
			t.Errorf("Secret of the first gate, of the kind %d: %v", k, got)
		}
	}
}
