package tx

import (
	"purser/api"
	"purser/octet"
)

const firstPart = 512 // bytes; most transactions have fewer

// Encode returns the bytes of t.
func Encode(t api.Tx) ([]byte, api.Errno) {
	if Check(t) != api.OK {
		return nil, api.ErrTx
	}
	var pen octet.Pen
	pen.Fixed(4, uint64(t.Version))
	pen.Size(uint64(len(t.In)))
	for _, in := range t.In {
		pen.Raw(in.Prev.Tx[:])
		pen.Fixed(4, uint64(in.Prev.N))
		pen.Bytes(in.Script)
		pen.Fixed(4, uint64(in.Seq))
	}
	pen.Size(uint64(len(t.Out)))
	for _, out := range t.Out {
		pen.Fixed(8, uint64(out.Value))
		pen.Bytes(out.Script)
	}
	pen.Fixed(4, uint64(t.Lock))
	return pen.All(), api.OK
}

// Decode returns the transaction whose bytes are b.
func Decode(b []byte) (api.Tx, api.Errno) {
	t, n, e := First(b)
	if e != api.OK || n < len(b) {
		return api.Tx{}, api.ErrTx
	}
	return t, api.OK
}

// First returns the transaction with whose bytes b begins, and how many these are.
func First(b []byte) (t api.Tx, n int, e api.Errno) {
	// A reader copies all that it looks at; among many transactions, the rest of b would be copied for each of them.
	for part := firstPart; part < len(b); part *= 2 {
		if t, n, e = read(b[:part]); e == api.OK {
			return t, n, e
		}
	}
	return read(b)
}

func read(b []byte) (t api.Tx, n int, e api.Errno) {
	r := reader{eye: octet.Look(b)}
	t.Version = r.word()
	t.In = list(&r, r.in)
	t.Out = list(&r, r.out)
	t.Lock = r.word()
	if r.failed {
		return api.Tx{}, 0, api.ErrTx
	}
	return t, len(b) - r.eye.Left(), api.OK
}

// reader reads parts of a transaction; after the first fault it has failed, and reads zero values.
type reader struct {
	eye    *octet.Eye
	failed bool
}

// list reads a number of items, and each of them by item.
func list[T any](r *reader, item func() T) []T {
	n, e := r.eye.Size()
	r.note(e)
	if n < 1 || n > api.MaxIns {
		r.failed = true
	}
	var l []T
	for uint64(len(l)) < n && !r.failed {
		l = append(l, item())
	}
	return l
}

func (r *reader) in() api.In {
	return api.In{Prev: api.Outpoint{Tx: r.hash(), N: r.word()}, Script: r.script(), Seq: r.word()}
}

func (r *reader) out() api.Out {
	value, e := r.eye.Fixed(8)
	r.note(e)
	return api.Out{Value: int64(value), Script: r.script()}
}

func (r *reader) word() uint32 {
	n, e := r.eye.Fixed(4)
	r.note(e)
	return uint32(n)
}

func (r *reader) hash() api.Hash {
	var h api.Hash
	b, e := r.eye.Raw(len(h))
	r.note(e)
	copy(h[:], b)
	return h
}

func (r *reader) script() []byte {
	b, e := r.eye.Bytes(api.MaxRaw)
	r.note(e)
	return b
}

func (r *reader) note(e api.Errno) {
	if e != api.OK {
		r.failed = true
	}
}
