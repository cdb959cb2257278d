package octet

import "iter"

// Compact returns the length of the compact size of n.
func Compact(n uint64) int {
	if n < twoFollow {
		return 1
	}
	switch w := width(n); {
	case w <= 2:
		return 3
	case w <= 4:
		return 5
	}
	return 9
}

// mark returns the first byte of a compact size of which more bytes follow.
func mark(more int) byte {
	switch more {
	case 2:
		return twoFollow
	case 4:
		return fourFollow
	}
	return eightFollow
}

// following returns how many bytes follow the first byte of a compact size.
func following(first byte) int {
	switch first {
	case twoFollow:
		return 2
	case fourFollow:
		return 4
	case eightFollow:
		return 8
	}
	return 0
}

// compact reads the compact size at the beginning of b, and its length.
func compact(b []byte) (n uint64, used int, ok bool) {
	if len(b) == 0 {
		return 0, 0, false
	}
	used = 1 + following(b[0])
	if len(b) < used {
		return 0, 0, false
	}
	n = uint64(b[0])
	if used > 1 {
		n = number(b[1:used])
	}
	return n, used, Compact(n) == used
}

// number returns the integer whose bytes are b, the least significant one first.
func number(b []byte) uint64 {
	n := uint64(0)
	for i := len(b) - 1; i >= 0; i-- {
		n = n<<8 | uint64(b[i])
	}
	return n
}

func sized(size int) bool { return size == 1 || size == 2 || size == 4 || size == 8 }

// width returns how many bytes n needs, at least one.
func width(n uint64) int {
	need := 1
search:
	for place, b := range highFirst(n, 8) {
		if b != 0 {
			need = place + 1
			break search
		}
	}
	return need
}

// highFirst yields the lowest size bytes of n with their places, the most significant one first.
func highFirst(n uint64, size int) iter.Seq2[int, byte] {
	return func(yield func(int, byte) bool) {
		for place := size - 1; place >= 0; place-- {
			if !yield(place, byte(n>>(8*place))) {
				return
			}
		}
	}
}
