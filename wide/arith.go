package wide

import (
	"iter"
	"math/bits"

	"purser/api"
)

// Compare returns -1 if a is less than b, 1 if it is greater, and otherwise 0.
func Compare(a, b api.Wide) int {
	if a == b {
		return 0
	}
	if _, under := Sub(a, b); under {
		return -1
	}
	return 1
}

// Len returns the number of bits of a without leading zeros.
func Len(a api.Wide) int {
	length := 0
	for i := range words {
		if a[i] != 0 {
			length = i*wordBits + bits.Len64(a[i])
		}
	}
	return length
}

// Add returns the sum, and whether it does not fit.
func Add(a, b api.Wide) (sum api.Wide, over bool) {
	carry := uint64(0)
	for i := range words {
		sum[i], carry = bits.Add64(a[i], b[i], carry)
	}
	return sum, carry != 0
}

// Sub returns the difference, and whether b is greater than a.
func Sub(a, b api.Wide) (difference api.Wide, under bool) {
	borrow := uint64(0)
	for i := range words {
		difference[i], borrow = bits.Sub64(a[i], b[i], borrow)
	}
	return difference, borrow != 0
}

// Mul returns the product: low + high times 2^256.
func Mul(a, b api.Wide) (low, high api.Wide) {
	var product [2 * words]uint64
	for i := range words {
		carry := uint64(0)
		for j := range words {
			product[i+j], carry = mulAdd(a[i], b[j], product[i+j], carry)
		}
		product[i+words] = carry
	}
	for i := range words {
		low[i], high[i] = product[i], product[i+words]
	}
	return low, high
}

// mulAdd returns the low and the high word of a times b plus c plus d, which always fits.
func mulAdd(a, b, c, d uint64) (low, high uint64) {
	high, low = bits.Mul64(a, b)
	low, carry := bits.Add64(low, c, 0)
	high += carry
	low, carry = bits.Add64(low, d, 0)
	return low, high + carry
}

// Div returns the quotient, rounded down, and the rest.
func Div(a, b api.Wide) (quotient, rest api.Wide, e api.Errno) {
	if b == (api.Wide{}) {
		return api.Wide{}, api.Wide{}, api.ErrWide
	}
nextBit:
	for place, bit := range quotientBits(a, b, &rest) {
		if !bit {
			continue nextBit
		}
		quotient[place/wordBits] |= 1 << (place % wordBits)
	}
	return quotient, rest, api.OK
}

// quotientBits yields the bits of a / b with their places, the highest one first; at the end, rest is the rest.
func quotientBits(a, b api.Wide, rest *api.Wide) iter.Seq2[int, bool] {
	return func(yield func(int, bool) bool) {
		for place := Len(a) - 1; place >= 0; place-- {
			// The rest is at most what was read of a so far, so that it still fits when it is doubled.
			*rest = Left(*rest, 1)
			rest[0] |= a[place/wordBits] >> (place % wordBits) & 1
			difference, under := Sub(*rest, b)
			if !under {
				*rest = difference
			}
			if !yield(place, !under) {
				return
			}
		}
	}
}

// Left returns a times 2^n, without what goes beyond 256 bits.
func Left(a api.Wide, n int) api.Wide {
	if n <= 0 {
		return a
	}
	if n >= allBits {
		return api.Wide{}
	}
	var shifted api.Wide
	skip, more := n/wordBits, n%wordBits
	for i := range words - skip {
		shifted[i+skip] |= a[i] << more
		if i+skip+1 < words {
			shifted[i+skip+1] = a[i] >> (wordBits - more)
		}
	}
	return shifted
}

// Right returns a divided by 2^n, rounded down.
func Right(a api.Wide, n int) api.Wide {
	if n <= 0 {
		return a
	}
	if n >= allBits {
		return api.Wide{}
	}
	var shifted api.Wide
	skip, more := n/wordBits, n%wordBits
	for i := range words - skip {
		shifted[i] |= a[i+skip] >> more
		if i > 0 {
			shifted[i-1] |= a[i+skip] << (wordBits - more)
		}
	}
	return shifted
}

// Not returns 2^256 - 1 - a.
func Not(a api.Wide) api.Wide {
	for i := range words {
		a[i] = ^a[i]
	}
	return a
}
