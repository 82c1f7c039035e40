// Package word: bits of words.
package word

import (
	"math/bits"

	"gristmill/api"
)

// size is how many bits a word has.
const size = 64

// Get is the number that n bits, from bit at on, are. ErrRange: n is below 1, or they aren't all there.
func Get(w uint64, at, n int) (uint64, error) {
	if !inside(at, n) {
		return 0, api.ErrRange
	}
	return w >> at & ones(n), nil
}

// Set is w, in which n bits, from bit at on, are x. ErrRange: likewise; ErrFull: x is 2^n or more.
func Set(w uint64, at, n int, x uint64) (uint64, error) {
	if !inside(at, n) {
		return 0, api.ErrRange
	}
	if x > ones(n) {
		return 0, api.ErrFull
	}
	return w&^(ones(n)<<at) | x<<at, nil
}

// Bit says whether bit at is 1 (of one that isn't there: no).
func Bit(w uint64, at int) bool {
	return inside(at, 1) && w>>at&1 == 1
}

// Flip is w with bit at turned (of one that isn't there: w).
func Flip(w uint64, at int) uint64 {
	if !inside(at, 1) {
		return w
	}
	return w ^ 1<<at
}

// Count is how many bits are 1.
func Count(w uint64) int {
	return bits.OnesCount64(w)
}

// First is the least bit that is 1; -1: none is.
func First(w uint64) int {
	if w == 0 {
		return -1
	}
	return bits.TrailingZeros64(w)
}

// inside says whether n bits, from bit at on, are all there. It takes n from size, since at+n could wrap round.
func inside(at, n int) bool {
	return n >= 1 && at >= 0 && at <= size-n
}

// ones is 2^n - 1; of size it is right too, since a 1 that is shifted out leaves 0, and 0 - 1 wraps round.
func ones(n int) uint64 {
	return uint64(1)<<n - 1
}
