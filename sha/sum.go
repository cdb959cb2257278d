package sha

import (
	"iter"
	"math/bits"

	"purser/api"
)

const (
	blockSize  = 64
	lengthSize = 8 // bytes of the message's length, at the end of the last block
	rounds     = cubes
)

// Sum is a message's hash so far; only New and Copy create one.
type Sum struct {
	state  [squares]uint32
	block  [blockSize]byte // begins with the bytes that do not fill a block yet
	length uint64
	open   bool // New or Copy created it
}

// New returns a Sum of the empty message.
func New() *Sum {
	return &Sum{state: squareTable(), open: true}
}

// Write appends b to the message.
func (s *Sum) Write(b []byte) *Sum {
	if !s.sums() {
		return nil
	}
nextPart:
	for full := range s.fill(b) {
		if !full {
			continue nextPart
		}
		s.mix()
	}
	return s
}

// Len returns the length of the message.
func (s *Sum) Len() uint64 {
	if !s.sums() {
		return 0
	}
	return s.length
}

// End returns the hash of the message.
func (s *Sum) End() api.Hash {
	if !s.sums() {
		return api.Hash{}
	}
	last := *s
	last.Write(padding(s.length))
	var hash api.Hash
	for i, word := range last.state {
		copy(hash[4*i:], []byte{byte(word >> 24), byte(word >> 16), byte(word >> 8), byte(word)})
	}
	return hash
}

// Copy returns an independent Sum of the same message.
func (s *Sum) Copy() *Sum {
	if !s.sums() {
		return nil
	}
	same := *s
	return &same
}

func (s *Sum) sums() bool { return s != nil && s.open }

// fill moves b into the block part by part, and yields for each part whether it filled the block.
func (s *Sum) fill(b []byte) iter.Seq[bool] {
	return func(yield func(bool) bool) {
		for len(b) > 0 {
			moved := copy(s.block[s.length%blockSize:], b)
			s.length += uint64(moved)
			b = b[moved:]
			if !yield(s.length%blockSize == 0) {
				return
			}
		}
	}
}

// padding returns what follows a message of that length, up to the end of a block.
func padding(length uint64) []byte {
	used := int(length % blockSize)
	size := blockSize - used
	if size < 1+lengthSize {
		size += blockSize
	}
	pad := make([]byte, size)
	pad[0] = 0x80
	for i := range lengthSize {
		pad[size-1-i] = byte(length * 8 >> (8 * i))
	}
	return pad
}

// mix brings the block into the state.
func (s *Sum) mix() {
	cube, schedule := cubeTable(), s.schedule()
	a, b, c, d, e, f, g, h := s.state[0], s.state[1], s.state[2], s.state[3], s.state[4], s.state[5], s.state[6], s.state[7]
	for i := range rounds {
		choice := e&f ^ ^e&g
		majority := a&b ^ a&c ^ b&c
		first := h + turned(e, 6, 11, 25) + choice + cube[i] + schedule[i]
		second := turned(a, 2, 13, 22) + majority
		a, b, c, d, e, f, g, h = first+second, a, b, c, d+first, e, f, g
	}
	for i, word := range [squares]uint32{a, b, c, d, e, f, g, h} {
		s.state[i] += word
	}
}

// schedule returns the words that the rounds add.
func (s *Sum) schedule() [rounds]uint32 {
	var words [rounds]uint32
	for i := range rounds {
		if i < blockSize/4 {
			b := s.block[4*i : 4*i+4]
			words[i] = uint32(b[0])<<24 | uint32(b[1])<<16 | uint32(b[2])<<8 | uint32(b[3])
			continue
		}
		early, late := words[i-15], words[i-2]
		small := bits.RotateLeft32(early, -7) ^ bits.RotateLeft32(early, -18) ^ early>>3
		great := bits.RotateLeft32(late, -17) ^ bits.RotateLeft32(late, -19) ^ late>>10
		words[i] = words[i-16] + small + words[i-7] + great
	}
	return words
}

// turned returns the exclusive or of three rotations to the right.
func turned(word uint32, i, j, k int) uint32 {
	return bits.RotateLeft32(word, -i) ^ bits.RotateLeft32(word, -j) ^ bits.RotateLeft32(word, -k)
}
