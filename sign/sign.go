// Package sign is what the signs of programs make of words, for all layers that go by them: see doc/14-eval.md.
package sign

import (
	"bauta/api"
	"bauta/word"
)

// Alone is what s makes of the one word behind it; 0, if s is no such sign.
func Alone(s string, a uint32) uint32 {
	switch s {
	case "~":
		return ^a
	case "-":
		return -a
	}
	return 0
}

// Both is what s makes of the words beside it; 0, if s is no such sign.
func Both(s string, a, b uint32) uint32 {
	switch s {
	case "+":
		return a + b
	case "-":
		return a - b
	case "&":
		return a & b
	case "|":
		return a | b
	case "^":
		return a ^ b
	}
	return 0
}

// Shifted is what s makes of a, which is shifted or turned by so many bits; 0, if s is no such sign.
func Shifted(s string, a, by uint32) uint32 {
	moved := uint32(0)
	switch s {
	case "<<":
		moved, _ = word.Shift(api.Lsl, a, by, false)
	case ">>":
		moved, _ = word.Shift(api.Lsr, a, by, false)
	case "<<<":
		moved = word.Rot(a, by)
	}
	return moved
}
