// Package manifest is layer 18: the list of valid segments, in a file that is replaced atomically.
package manifest

import (
	"slices"

	"purser/api"
	"purser/octet"
	"purser/record"
)

const (
	recordKind = 0
	mostGroups = 1<<31 - 1
)

// Check returns an error unless m is valid.
func Check(m api.Manifest) api.Errno {
	if len(m.Parts) > api.MaxParts || m.Open < 1 || m.Open > api.MaxSegment {
		return api.ErrManifest
	}
	before, next := 0, uint64(1)
	for _, p := range m.Parts {
		if !sized(p) || p.Segment <= before || p.First != next {
			return api.ErrManifest
		}
		before = p.Segment
		next += uint64(p.Groups)
	}
	if m.Open <= before || m.Next != next {
		return api.ErrManifest
	}
	return api.OK
}

// sized reports whether a part may have so many groups and bytes.
func sized(p api.Part) bool {
	return p.Groups >= 1 && p.Groups <= mostGroups && p.Bytes >= 1 && p.Bytes <= api.MaxPart
}

// Encode returns the bytes of m.
func Encode(m api.Manifest) ([]byte, api.Errno) {
	if e := Check(m); e != api.OK {
		return nil, e
	}
	var pen octet.Pen
	pen.Fixed(4, uint64(len(m.Parts)))
	for _, p := range m.Parts {
		pen.Fixed(4, uint64(p.Segment))
		pen.Fixed(8, p.First)
		pen.Fixed(4, uint64(p.Groups))
		pen.Fixed(4, uint64(p.Bytes))
	}
	pen.Fixed(4, uint64(m.Open))
	pen.Fixed(8, m.Next)
	return record.Encode(api.Record{Kind: recordKind, Payload: pen.All()})
}

// Decode returns the manifest whose bytes are b.
func Decode(b []byte) (api.Manifest, api.Errno) {
	r, next, e := record.Decode(b, 0)
	if e != api.OK || next != len(b) || r.Kind != recordKind {
		return api.Manifest{}, api.ErrManifest
	}
	m, e := read(octet.Look(r.Payload))
	if e != api.OK || Check(m) != api.OK {
		return api.Manifest{}, api.ErrManifest
	}
	return m, api.OK
}

func read(eye *octet.Eye) (m api.Manifest, e api.Errno) {
	fixed := func(size int) uint64 {
		n, failed := eye.Fixed(size)
		e = max(e, failed)
		return n
	}
	parts := fixed(4)
	if parts > api.MaxParts {
		return api.Manifest{}, api.ErrManifest
	}
	for range parts {
		p := api.Part{Segment: int(fixed(4)), First: fixed(8), Groups: int(fixed(4)), Bytes: int(fixed(4))}
		m.Parts = append(m.Parts, p)
	}
	m.Open, m.Next = int(fixed(4)), fixed(8)
	return m, max(e, eye.End())
}

// Same reports whether a and b are equal.
func Same(a, b api.Manifest) bool {
	return a.Open == b.Open && a.Next == b.Next && slices.Equal(a.Parts, b.Parts)
}
