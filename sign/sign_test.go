package sign_test

import (
	"math"
	"testing"

	"bauta/sign"
)

// What is no sign of any kind.
func none() []string {
	return []string{"", " ", "*", "/", "~~", "--", "++", "&&", "||", "<", ">", ">>>", "<<<<", "<< ", " <<", "sel", "a", "0", "\x00"}
}

func TestAlone(t *testing.T) {
	for _, of := range []struct {
		s       string
		a, want uint32
	}{{"~", 0, math.MaxUint32}, {"~", math.MaxUint32, 0}, {"~", 0x0f0f00ff, 0xf0f0ff00}, {"-", 0, 0}, {"-", 1, math.MaxUint32}, {"-", math.MaxUint32, 1}, {"-", 1 << 31, 1 << 31}, {"-", 5, math.MaxUint32 - 4}} {
		if got := sign.Alone(of.s, of.a); got != of.want {
			t.Errorf("Alone(%q, %d): %d, not %d", of.s, of.a, got, of.want)
		}
	}
	for _, s := range append(none(), "+", "&", "|", "^", "<<", ">>", "<<<") {
		if got := sign.Alone(s, 7); got != 0 {
			t.Errorf("Alone(%q, 7): %d", s, got)
		}
	}
}

func TestBoth(t *testing.T) {
	for _, of := range []struct {
		s          string
		a, b, want uint32
	}{
		{"+", 3, 4, 7}, {"+", math.MaxUint32, 1, 0}, {"+", math.MaxUint32, math.MaxUint32, math.MaxUint32 - 1}, {"-", 4, 3, 1}, {"-", 3, 4, math.MaxUint32}, {"-", 0, math.MaxUint32, 1}, {"-", 1 << 31, math.MaxUint32, 1<<31 + 1},
		{"&", 12, 10, 8}, {"|", 12, 10, 14}, {"^", 12, 10, 6}, {"&", math.MaxUint32, 1 << 31, 1 << 31}, {"|", 1 << 31, 1, 1<<31 + 1}, {"^", math.MaxUint32, 1, math.MaxUint32 - 1},
	} {
		if got := sign.Both(of.s, of.a, of.b); got != of.want {
			t.Errorf("Both(%q, %d, %d): %d, not %d", of.s, of.a, of.b, got, of.want)
		}
	}
	for _, s := range append(none(), "~", "<<", ">>", "<<<") {
		if got := sign.Both(s, 7, 2); got != 0 {
			t.Errorf("Both(%q, 7, 2): %d", s, got)
		}
	}
}

func TestShifted(t *testing.T) {
	for _, of := range []struct {
		s           string
		a, by, want uint32
	}{
		{"<<", 5, 0, 5}, {"<<", 5, 1, 10}, {"<<", 5, 31, 1 << 31}, {"<<", 5, 32, 0}, {"<<", 5, 33, 0}, {"<<", 5, 64, 0}, {"<<", 5, math.MaxUint32, 0},
		{">>", 5, 0, 5}, {">>", 5, 1, 2}, {">>", 1 << 31, 31, 1}, {">>", 1 << 31, 32, 0}, {">>", math.MaxUint32, 33, 0}, {">>", math.MaxUint32, 64, 0}, {">>", math.MaxUint32, math.MaxUint32, 0},
		{"<<<", 5, 0, 5}, {"<<<", 5, 1, 10}, {"<<<", 5, 31, 1<<31 + 2}, {"<<<", 5, 32, 5}, {"<<<", 5, 33, 10}, {"<<<", 5, math.MaxUint32, 1<<31 + 2}, {"<<<", 0x12345678, 8, 0x34567812},
	} {
		if got := sign.Shifted(of.s, of.a, of.by); got != of.want {
			t.Errorf("Shifted(%q, %d, %d): %d, not %d", of.s, of.a, of.by, got, of.want)
		}
	}
	for _, s := range append(none(), "+", "-", "&", "|", "^", "~") {
		if got := sign.Shifted(s, 7, 2); got != 0 {
			t.Errorf("Shifted(%q, 7, 2): %d", s, got)
		}
	}
}
