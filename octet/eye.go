package octet

import "purser/api"

// Eye reads bytes; only Look creates one that does.
type Eye struct {
	bytes []byte
	at    int
	open  bool // Look created it
}

// Look returns an Eye at the beginning of b.
func Look(b []byte) *Eye {
	return &Eye{bytes: append([]byte(nil), b...), open: true}
}

// Fixed reads an integer of size bytes.
func (e *Eye) Fixed(size int) (uint64, api.Errno) {
	if !e.looks() {
		return 0, api.ErrNil
	}
	if !sized(size) {
		return 0, api.ErrArg
	}
	if size > e.Left() {
		return 0, api.ErrOctet
	}
	n := number(e.bytes[e.at : e.at+size])
	e.at += size
	return n, api.OK
}

// Size reads a compact size.
func (e *Eye) Size() (uint64, api.Errno) {
	if !e.looks() {
		return 0, api.ErrNil
	}
	n, used, ok := compact(e.bytes[e.at:])
	if !ok {
		return 0, api.ErrOctet
	}
	e.at += used
	return n, api.OK
}

// Bytes reads a byte string of at most most bytes.
func (e *Eye) Bytes(most int) ([]byte, api.Errno) {
	if !e.looks() {
		return nil, api.ErrNil
	}
	n, used, ok := compact(e.bytes[e.at:])
	if !ok || most < 0 || n > uint64(most) || n > uint64(e.Left()-used) {
		return nil, api.ErrOctet
	}
	e.at += used
	return e.take(int(n)), api.OK
}

// Raw reads n bytes.
func (e *Eye) Raw(n int) ([]byte, api.Errno) {
	if !e.looks() {
		return nil, api.ErrNil
	}
	if n < 0 {
		return nil, api.ErrArg
	}
	if n > e.Left() {
		return nil, api.ErrOctet
	}
	return e.take(n), api.OK
}

// Left returns how many bytes are unread.
func (e *Eye) Left() int {
	if !e.looks() {
		return 0
	}
	return len(e.bytes) - e.at
}

// End returns an error if bytes are unread.
func (e *Eye) End() api.Errno {
	if !e.looks() {
		return api.ErrNil
	}
	if e.Left() > 0 {
		return api.ErrOctet
	}
	return api.OK
}

func (e *Eye) looks() bool { return e != nil && e.open }

// take returns the next n bytes, which must be there.
func (e *Eye) take(n int) []byte {
	b := append([]byte(nil), e.bytes[e.at:e.at+n]...)
	e.at += n
	return b
}
