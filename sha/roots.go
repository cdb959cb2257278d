package sha

import (
	"sync"

	"purser/wide"
)

const (
	squares  = 8
	cubes    = 64
	fraction = 32 // bits of a root behind its point
	rootBits = 40 // more than any of the roots has, with its fraction
)

// The tables take some thousand multiplications, so they are built once. Roots alone reads them.
var (
	built       sync.Once
	squareRoots [squares]uint32
	cubeRoots   [cubes]uint32
)

// Roots returns the two tables.
func Roots() (square []uint32, cube []uint32) {
	built.Do(build)
	square, cube = make([]uint32, squares), make([]uint32, cubes)
	copy(square, squareRoots[:])
	copy(cube, cubeRoots[:])
	return square, cube
}

// build fills the tables.
func build() {
	prime := uint64(1)
	for i := range cubes {
		prime = primeAfter(prime)
		cubeRoots[i] = root(prime, 3)
		if i < squares {
			squareRoots[i] = root(prime, 2)
		}
	}
}

func primeAfter(n uint64) uint64 {
	n++
	for !isPrime(n) {
		n++
	}
	return n
}

func isPrime(n uint64) bool {
	for divisor := uint64(2); divisor*divisor <= n; divisor++ {
		if n%divisor == 0 {
			return false
		}
	}
	return n > 1
}

// root returns the first 32 bits behind the point of the power-th root of n.
func root(n uint64, power int) uint32 {
	limit := wide.Left(wide.Of(n), fraction*power)
	found := uint64(0)
	for i := range rootBits {
		next := found | 1<<(rootBits-1-i)
		raised := wide.Of(1)
		for range power {
			raised, _ = wide.Mul(raised, wide.Of(next))
		}
		if wide.Compare(raised, limit) <= 0 {
			found = next
		}
	}
	return uint32(found)
}
