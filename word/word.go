// Package word is layer 1: words of 32 bits: see DOC.md and doc/01-word.md.
package word

import (
	"math/bits"
	"strconv"
	"strings"

	"bauta/api"
)

// beyond is the least number that is no word; noDigit is more than any digit counts.
const (
	beyond  = 1 << 32
	noDigit = 16
)

// Add is the sum of a, b and the carry, with the carry that goes out, and whether it is wrong as a number with a sign.
func Add(a, b uint32, carry bool) (uint32, bool, bool) {
	sum, out := bits.Add32(a, b, one(carry))
	// Only where both parts have one sign and the sum the other one has it left its range.
	over := (a ^ sum) & (b ^ sum)
	return sum, out == 1, highest(over)
}

// Shift is a, shifted by by bits as kind says, with the last bit that went out.
func Shift(kind int, a uint32, by uint32, carry bool) (uint32, bool) {
	if kind < api.Lsl || kind > api.Ror {
		return 0, false
	}
	if by == 0 {
		return a, carry
	}
	switch kind {
	case api.Lsl:
		return left(a, by)
	case api.Lsr:
		return right(a, by)
	case api.Asr:
		return rightSigned(a, by)
	default:
		turned := bits.RotateLeft32(a, -int(by%32))
		return turned, highest(turned)
	}
}

// Rot is a, turned to the left by by bits, modulo 32.
func Rot(a uint32, by uint32) uint32 {
	return bits.RotateLeft32(a, int(by%32))
}

// Sel has the bits of a where m has ones, those of b elsewhere.
func Sel(m, a, b uint32) uint32 {
	return a&m | b&^m
}

// Parity tells whether the number of a's ones is odd.
func Parity(a uint32) bool {
	return bits.OnesCount32(a)%2 == 1
}

// Number reads digits, or 0x and hexadecimal digits.
func Number(s string) (uint32, api.Errno) {
	base := uint64(10)
	digits, hexadecimal := strings.CutPrefix(s, "0x")
	if hexadecimal {
		base = 16
	}
	if digits == "" {
		return 0, api.ErrForm
	}
	sum := uint64(0)
	for i := range len(digits) {
		d := digit(digits[i])
		if d >= base {
			return 0, api.ErrForm
		}
		// What is too great stays so, since its digits have still to be looked at: ErrForm goes ahead of ErrLong.
		sum = min(sum*base+d, beyond)
	}
	if sum == beyond {
		return 0, api.ErrLong
	}
	return uint32(sum), api.OK
}

// Hex is 0x and the eight digits of a.
func Hex(a uint32) string {
	digits := strconv.FormatUint(uint64(a), 16)
	return "0x" + strings.Repeat("0", 8-len(digits)) + digits
}

// left and its likes shift within a wider number: the bit beside the word is then the last one that went out, however far it goes.
func left(a, by uint32) (uint32, bool) {
	wide := uint64(a) << by
	return uint32(wide), wide>>32&1 == 1
}

func right(a, by uint32) (uint32, bool) {
	wide := uint64(a) << 1 >> by
	return uint32(wide >> 1), wide&1 == 1
}

func rightSigned(a, by uint32) (uint32, bool) {
	wide := int64(int32(a)) << 1 >> by
	return uint32(wide >> 1), wide&1 == 1
}

// one is what a carry counts.
func one(carry bool) uint32 {
	if carry {
		return 1
	}
	return 0
}

// highest tells whether the highest bit is a one.
func highest(a uint32) bool {
	return a>>31 == 1
}

// digit is what c counts in base 16; noDigit, if nothing.
func digit(c byte) uint64 {
	switch {
	case '0' <= c && c <= '9':
		return uint64(c - '0')
	case 'a' <= c && c <= 'f':
		return uint64(c-'a') + 10
	case 'A' <= c && c <= 'F':
		return uint64(c-'A') + 10
	}
	return noDigit
}
