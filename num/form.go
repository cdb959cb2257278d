// Package num is layer 11: the integers of the script language.
package num

import (
	"bytes"
	"iter"

	"purser/api"
)

const (
	signBit    = 0x80
	mostEncode = 1<<39 - 1 // the greatest absolute value that Encode takes
	mostBytes  = 4         // of the encoding of a script integer
)

// Encode returns the bytes of n.
func Encode(n int64) ([]byte, api.Errno) {
	if n < -mostEncode || n > mostEncode {
		return nil, api.ErrNum
	}
	var b []byte
collect:
	for low, above := range lowFirst(integer(n).size()) {
		if low == 0 && above == 0 {
			break collect
		}
		b = append(b, low)
	}
	return signed(b, n < 0), api.OK
}

// lowFirst yields the bytes of n, the least significant one first, each with what stands above it.
func lowFirst(n integer) iter.Seq2[byte, integer] {
	return func(yield func(byte, integer) bool) {
		for yield(byte(n), n>>8) {
			n >>= 8
		}
	}
}

// signed brings the sign into the absolute value b.
func signed(b []byte, negative bool) []byte {
	if len(b) == 0 {
		return b
	}
	if b[len(b)-1]&signBit != 0 {
		b = append(b, 0)
	}
	if negative {
		b[len(b)-1] |= signBit
	}
	return b
}

// Decode returns the script integer whose bytes are b.
func Decode(b []byte) (int64, api.Errno) {
	if len(b) > mostBytes {
		return 0, api.ErrNum
	}
	n := number(b)
	// Of all bytes that stand for n, only the shortest are its encoding.
	if shortest, e := Encode(n); e != api.OK || !bytes.Equal(shortest, b) {
		return 0, api.ErrNum
	}
	return n, api.OK
}

// number returns the integer that at most four bytes stand for, be they the shortest or not.
func number(b []byte) int64 {
	n, negative := int64(0), false
	for i, part := range b {
		if i == len(b)-1 {
			negative = part&signBit != 0
			part &^= signBit
		}
		n |= int64(part) << (8 * i)
	}
	if negative {
		return -n
	}
	return n
}

// True reports whether b is true.
func True(b []byte) bool {
	for i, part := range b {
		if i == len(b)-1 {
			part &^= signBit
		}
		if part != 0 {
			return true
		}
	}
	return false
}

// Flag returns the encoding of 1, or that of 0.
func Flag(is bool) []byte {
	if is {
		return []byte{1}
	}
	return []byte{}
}
