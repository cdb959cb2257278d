// Package wide is layer 3: unsigned integers of 256 bits.
package wide

import "purser/api"

const (
	words     = 4
	wordBits  = 64
	wordBytes = 8
	allBits   = words * wordBits
	allBytes  = words * wordBytes
	allDigits = 2 * allBytes
	digits    = "0123456789abcdef"
)

// Of returns n as a number.
func Of(n uint64) api.Wide { return api.Wide{n} }

// Read returns the number with the bytes b, the least significant one first.
func Read(b []byte) (api.Wide, api.Errno) {
	if len(b) != allBytes {
		return api.Wide{}, api.ErrWide
	}
	var a api.Wide
	for i := range allBytes {
		a[i/wordBytes] |= uint64(b[i]) << (8 * (i % wordBytes))
	}
	return a, api.OK
}

// Bytes returns the bytes of a, the least significant one first.
func Bytes(a api.Wide) []byte {
	b := make([]byte, allBytes)
	for i := range allBytes {
		b[i] = byte(a[i/wordBytes] >> (8 * (i % wordBytes)))
	}
	return b
}

// Parse returns the number with the digits s, the most significant one first.
func Parse(s string) (api.Wide, api.Errno) {
	if len(s) != allDigits {
		return api.Wide{}, api.ErrWide
	}
	var a api.Wide
	for i := range allDigits {
		value, ok := valueOf(s[i])
		if !ok {
			return api.Wide{}, api.ErrWide
		}
		a = Left(a, 4)
		a[0] |= value
	}
	return a, api.OK
}

// valueOf returns what a hexadecimal digit stands for.
func valueOf(digit byte) (uint64, bool) {
	switch {
	case digit >= '0' && digit <= '9':
		return uint64(digit - '0'), true
	case digit >= 'a' && digit <= 'f':
		return uint64(digit-'a') + 10, true
	}
	return 0, false
}

// Digits returns the digits of a, the most significant one first.
func Digits(a api.Wide) string {
	text := make([]byte, allDigits)
	for i := range allDigits {
		place := allDigits - 1 - i
		text[i] = digits[a[place/16]>>(4*(place%16))&15]
	}
	return string(text)
}
