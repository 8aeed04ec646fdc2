// Package nat is layer 1: see shared/doc/01-nat.md.
package nat

import (
	"math/bits"
	"sacristy/api"
)

const (
	byteBits  = 8
	limbBytes = api.LimbBits / byteBits
	maxBytes  = api.MaxBits / byteBits
)

// Of is a number that is not below 0.
func Of(n int) api.Nat {
	return api.Nat{uint64(max(n, 0))}
}

// Int is a natural as an int, if it is one.
func Int(a api.Nat) (int, bool) {
	low := a[0]
	if a != (api.Nat{low}) || low > api.MaxInt {
		return 0, false
	}
	return int(low), true
}

// Cmp tells which of two is greater: -1 the second, 1 the first.
func Cmp(a, b api.Nat) int {
	if a == b {
		return 0
	}
	if _, borrow := Sub(a, b); borrow == 1 {
		return -1
	}
	return 1
}

// Add is the sum of two, and what is carried.
func Add(a, b api.Nat) (api.Nat, int) {
	var sum api.Nat
	var carry uint64
	for k := range api.Limbs {
		sum[k], carry = bits.Add64(a[k], b[k], carry)
	}
	return sum, int(carry)
}

// Sub is the first less the second, and what is borrowed.
func Sub(a, b api.Nat) (api.Nat, int) {
	var rest api.Nat
	var borrow uint64
	for k := range api.Limbs {
		rest[k], borrow = bits.Sub64(a[k], b[k], borrow)
	}
	return rest, int(borrow)
}

// Len is how many bits a natural needs.
func Len(a api.Nat) int {
	for below := range api.Limbs {
		k := api.Limbs - 1 - below
		if a[k] != 0 {
			return k*api.LimbBits + bits.Len64(a[k])
		}
	}
	return 0
}

// Bit is one of its bits.
func Bit(a api.Nat, k int) int {
	if k < 0 || k >= api.MaxBits {
		return 0
	}
	return int(a[k/api.LimbBits] >> (k % api.LimbBits) & 1)
}

// Up is a natural times two, so often.
func Up(a api.Nat, k int) api.Nat {
	if k < 1 {
		return a
	}
	if k >= api.MaxBits {
		return api.Nat{}
	}
	limbs, few := k/api.LimbBits, k%api.LimbBits
	var up api.Nat
	for from := range api.Limbs - limbs {
		up[from+limbs] = a[from] << few
		if from > 0 {
			// With few at 0 this shifts a whole limb out, and adds nothing.
			up[from+limbs] |= a[from-1] >> (api.LimbBits - few)
		}
	}
	return up
}

// Down is a natural by two, so often.
func Down(a api.Nat, k int) api.Nat {
	if k < 1 {
		return a
	}
	if k >= api.MaxBits {
		return api.Nat{}
	}
	limbs, few := k/api.LimbBits, k%api.LimbBits
	var down api.Nat
	for to := range api.Limbs - limbs {
		from := to + limbs
		down[to] = a[from] >> few
		if from+1 < api.Limbs {
			// With few at 0 this shifts a whole limb out, and adds nothing.
			down[to] |= a[from+1] << (api.LimbBits - few)
		}
	}
	return down
}

// Bytes are a natural's, as few as there can be, the highest first.
func Bytes(a api.Nat) string {
	var all [maxBytes]byte
	for k := range maxBytes {
		all[maxBytes-1-k] = byte(a[k/limbBytes] >> (k % limbBytes * byteBits))
	}
	need := (Len(a) + byteBits - 1) / byteBits
	return string(all[maxBytes-need:])
}

// Take is the natural of bytes.
func Take(s string) (api.Nat, api.Errno) {
	if len(s) > maxBytes || len(s) > 0 && s[0] == 0 {
		return api.Nat{}, api.ErrBad
	}
	var a api.Nat
	for k := range len(s) {
		a[k/limbBytes] |= uint64(s[len(s)-1-k]) << (k % limbBytes * byteBits)
	}
	return a, api.OK
}
