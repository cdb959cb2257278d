package coin

import (
	"iter"

	"purser/api"
	"purser/octet"
)

const heightSize = 4

// Encode returns the bytes of the changes a.
func Encode(a api.Apply) ([]byte, api.Errno) {
	if e := Check(a); e != api.OK {
		return nil, e
	}
	var pen octet.Pen
	pen.Fixed(heightSize, uint64(a.Height))
	pen.Raw(a.Block[:])
	pen.Fixed(8, uint64(a.Burnt))
	pen.Fixed(8, uint64(a.Left))
	pen.Size(uint64(len(a.Made)))
	for _, v := range a.Made {
		point(&pen, v.Point)
		pen.Fixed(8, uint64(v.Value))
		pen.Fixed(1, flag(v.Base))
		pen.Bytes(v.Script)
	}
	pen.Size(uint64(len(a.Spends)))
	for _, s := range a.Spends {
		point(&pen, s.Point)
		pen.Raw(s.Spender[:])
	}
	return pen.All(), api.OK
}

func point(pen *octet.Pen, p api.Outpoint) {
	pen.Raw(p.Tx[:])
	pen.Fixed(4, uint64(p.N))
}

func flag(is bool) uint64 {
	if is {
		return 1
	}
	return 0
}

// Decode returns the changes whose bytes are b.
func Decode(b []byte) (api.Apply, api.Errno) {
	r := reader{eye: octet.Look(b)}
	a := api.Apply{Height: int(r.fixed(heightSize)), Block: r.hash(), Burnt: int64(r.fixed(8)), Left: int64(r.fixed(8))}
	r.height = a.Height
	a.Made = list(&r, r.version)
	a.Spends = list(&r, r.spend)
	r.note(r.eye.End())
	if r.failed || Check(a) != api.OK {
		return api.Apply{}, api.ErrCoin
	}
	return a, api.OK
}

// Cut returns the bytes of a cut.
func Cut(height int) ([]byte, api.Errno) {
	if !high(height) {
		return nil, api.ErrCoin
	}
	var pen octet.Pen
	pen.Fixed(heightSize, uint64(height))
	return pen.All(), api.OK
}

// CutOf returns the height of the cut whose bytes are b.
func CutOf(b []byte) (int, api.Errno) {
	r := reader{eye: octet.Look(b)}
	height := int(r.fixed(heightSize))
	r.note(r.eye.End())
	if r.failed || !high(height) {
		return 0, api.ErrCoin
	}
	return height, api.OK
}

// reader reads parts of changes; after the first fault it has failed, and reads zero values.
type reader struct {
	eye    *octet.Eye
	height int // of the block
	failed bool
}

// list returns the items that are read by item.
func list[T any](r *reader, item func() T) []T {
	var l []T
read:
	for x := range items(r, item) {
		if r.failed {
			break read
		}
		l = append(l, x)
	}
	return l
}

// items reads a number of items, and yields each of them as it is read by item.
func items[T any](r *reader, item func() T) iter.Seq[T] {
	return func(yield func(T) bool) {
		n, e := r.eye.Size()
		r.note(e)
		if n > api.MaxMade {
			r.failed = true
			return
		}
		for range n {
			if !yield(item()) {
				return
			}
		}
	}
}

func (r *reader) version() api.Version {
	v := api.Version{Point: r.point(), Made: r.height, Value: int64(r.fixed(8)), Base: r.flag()}
	script, e := r.eye.Bytes(api.MaxRaw)
	r.note(e)
	v.Script = script
	return v
}

func (r *reader) spend() api.Spend { return api.Spend{Point: r.point(), Spender: r.hash()} }

func (r *reader) point() api.Outpoint { return api.Outpoint{Tx: r.hash(), N: uint32(r.fixed(4))} }

func (r *reader) flag() bool {
	n := r.fixed(1)
	if n > 1 {
		r.failed = true
	}
	return n == 1
}

func (r *reader) hash() api.Hash {
	var h api.Hash
	b, e := r.eye.Raw(len(h))
	r.note(e)
	copy(h[:], b)
	return h
}

func (r *reader) fixed(size int) uint64 {
	n, e := r.eye.Fixed(size)
	r.note(e)
	return n
}

func (r *reader) note(e api.Errno) {
	if e != api.OK {
		r.failed = true
	}
}
