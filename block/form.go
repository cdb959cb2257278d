package block

import (
	"iter"

	"purser/api"
	"purser/octet"
	"purser/tx"
)

// EncodeHeader returns the bytes of h.
func EncodeHeader(h api.Header) []byte {
	var pen octet.Pen
	fixed := pen.Fixed
	fixed(4, uint64(h.Version))
	pen.Raw(h.Prev[:], h.Root[:])
	fixed(4, uint64(h.Time))
	fixed(4, uint64(h.Bits))
	fixed(4, uint64(h.Nonce))
	return pen.All()
}

// DecodeHeader returns the header whose bytes are b.
func DecodeHeader(b []byte) (api.Header, api.Errno) {
	if len(b) != api.HeaderSize {
		return api.Header{}, api.ErrBlock
	}
	eye := octet.Look(b)
	return api.Header{
		Version: word(eye), Prev: hash(eye), Root: hash(eye),
		Time: word(eye), Bits: word(eye), Nonce: word(eye),
	}, api.OK
}

// word reads an integer of a header, whose length was checked.
func word(eye *octet.Eye) uint32 {
	n, _ := eye.Fixed(4)
	return uint32(n)
}

// hash reads a hash of a header, whose length was checked.
func hash(eye *octet.Eye) api.Hash {
	var h api.Hash
	b, _ := eye.Raw(len(h))
	copy(h[:], b)
	return h
}

// Encode returns the bytes of b.
func Encode(b api.Block) ([]byte, api.Errno) {
	var pen octet.Pen
	pen.Raw(EncodeHeader(b.Header))
	pen.Size(uint64(len(b.Txs)))
	for _, t := range b.Txs {
		part, e := tx.Encode(t)
		if e != api.OK {
			return nil, api.ErrBlock
		}
		pen.Raw(part)
	}
	return pen.All(), api.OK
}

// Decode returns the block whose bytes are b.
func Decode(b []byte) (api.Block, api.Errno) {
	if len(b) < api.HeaderSize {
		return api.Block{}, api.ErrBlock
	}
	header, e := DecodeHeader(b[:api.HeaderSize])
	rest := b[api.HeaderSize:]
	many, used, f := size(rest)
	if e != api.OK || f != api.OK {
		return api.Block{}, api.ErrBlock
	}
	rest = rest[used:]
	decoded := api.Block{Header: header}
read:
	for t, n := range txs(rest) {
		if uint64(len(decoded.Txs)) == many {
			break read
		}
		decoded.Txs = append(decoded.Txs, t)
		rest = rest[n:]
	}
	if uint64(len(decoded.Txs)) != many || len(rest) > 0 {
		return api.Block{}, api.ErrBlock
	}
	return decoded, api.OK
}

// size reads the compact size at the beginning of b, and how many bytes it has.
func size(b []byte) (n uint64, used int, e api.Errno) {
	n, e = octet.Look(b[:min(len(b), octet.Compact(1<<64-1))]).Size()
	return n, octet.Compact(n), e
}

// txs yields the transactions of b one after the other, and how many bytes each of them has.
func txs(b []byte) iter.Seq2[api.Tx, int] {
	return func(yield func(api.Tx, int) bool) {
		for {
			t, n, e := tx.First(b)
			if e != api.OK || !yield(t, n) {
				return
			}
			b = b[n:]
		}
	}
}
