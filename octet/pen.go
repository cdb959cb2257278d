// Package octet is layer 1: integers and byte strings as bytes.
package octet

import "purser/api"

// The first bytes of compact sizes that do not fit into one byte.
const (
	twoFollow   = 253
	fourFollow  = 254
	eightFollow = 255
)

// Pen writes bytes; its zero value has written none.
type Pen struct {
	written []byte
}

// Fixed writes n in size bytes, the least significant one first.
func (p *Pen) Fixed(size int, n uint64) api.Errno {
	if p == nil {
		return api.ErrNil
	}
	if !sized(size) {
		return api.ErrArg
	}
	if width(n) > size {
		return api.ErrOctet
	}
	p.put(size, n)
	return api.OK
}

// Size writes n as a compact size.
func (p *Pen) Size(n uint64) api.Errno {
	if p == nil {
		return api.ErrNil
	}
	more := Compact(n) - 1
	if more == 0 {
		p.put(1, n)
		return api.OK
	}
	p.put(1, uint64(mark(more)))
	p.put(more, n)
	return api.OK
}

// Bytes writes b as a byte string.
func (p *Pen) Bytes(b []byte) api.Errno {
	if e := p.Size(uint64(len(b))); e != api.OK {
		return e
	}
	return p.Raw(b)
}

// Raw writes the bytes of all parts as they are.
func (p *Pen) Raw(parts ...[]byte) api.Errno {
	if p == nil {
		return api.ErrNil
	}
	for _, part := range parts {
		p.written = append(p.written, part...)
	}
	return api.OK
}

// Len returns how many bytes were written.
func (p *Pen) Len() int {
	if p == nil {
		return 0
	}
	return len(p.written)
}

// All returns the bytes that were written.
func (p *Pen) All() []byte {
	if p == nil {
		return nil
	}
	return append([]byte(nil), p.written...)
}

// put writes the lowest size bytes of n.
func (p *Pen) put(size int, n uint64) {
	begin := len(p.written)
	p.written = append(p.written, make([]byte, size)...)
	for place, b := range highFirst(n, size) {
		p.written[begin+place] = b
	}
}
