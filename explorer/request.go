// Package explorer is layer 29: requests to a chain at any height, and the encoding of requests and answers.
package explorer

import (
	"purser/api"
	"purser/octet"
)

// fields tells which fields a request has, in the order of their encoding.
type fields struct {
	point, height, k, script, hash, block bool
}

// fieldsOf returns the fields of the requests of a kind, and whether there is that kind.
func fieldsOf(kind int) (fields, bool) {
	switch kind {
	case api.AskSubmit:
		return fields{block: true}, true
	case api.AskCoin, api.AskTrace:
		return fields{point: true, height: true}, true
	case api.AskInfo, api.AskAt:
		return fields{height: true}, true
	case api.AskBalance:
		return fields{height: true, script: true}, true
	case api.AskRich:
		return fields{height: true, k: true}, true
	case api.AskBlock, api.AskTx:
		return fields{hash: true}, true
	case api.AskTip, api.AskCheck:
		return fields{}, true
	}
	return fields{}, false
}

// Check returns an error unless r is valid.
func Check(r api.Request) api.Errno {
	f, ok := fieldsOf(r.Kind)
	other := !f.point && r.Point != api.Outpoint{} || !f.height && r.Height != 0 || !f.k && r.K != 0 ||
		!f.script && len(r.Script) > 0 || !f.hash && r.Hash != api.Hash{} || !f.block && len(r.Block) > 0
	if !ok || other || len(r.Script) > api.MaxRaw || len(r.Block) > api.MaxAsk {
		return api.ErrParse
	}
	return api.OK
}

// Encode returns the bytes of r.
func Encode(r api.Request) ([]byte, api.Errno) {
	if e := Check(r); e != api.OK {
		return nil, e
	}
	f, _ := fieldsOf(r.Kind)
	var pen octet.Pen
	pen.Fixed(1, uint64(r.Kind))
	if f.point {
		pen.Raw(r.Point.Tx[:])
		pen.Fixed(4, uint64(r.Point.N))
	}
	if f.height {
		pen.Fixed(4, uint64(r.Height))
	}
	if f.k {
		pen.Fixed(4, uint64(r.K))
	}
	if f.script {
		pen.Bytes(r.Script)
	}
	if f.hash {
		pen.Raw(r.Hash[:])
	}
	pen.Raw(r.Block)
	return pen.All(), api.OK
}

// Decode returns the request whose bytes are b.
func Decode(b []byte) (api.Request, api.Errno) {
	if len(b) < 1 || len(b) > 1+api.MaxAsk {
		return api.Request{}, api.ErrParse
	}
	d := reader{eye: octet.Look(b)}
	r := api.Request{Kind: int(d.fixed(1))}
	f, ok := fieldsOf(r.Kind)
	if f.point {
		r.Point = api.Outpoint{Tx: d.hash(), N: uint32(d.fixed(4))}
	}
	if f.height {
		r.Height = uint32(d.fixed(4))
	}
	if f.k {
		r.K = uint32(d.fixed(4))
	}
	if f.script {
		r.Script = d.script()
	}
	if f.hash {
		r.Hash = d.hash()
	}
	if f.block {
		r.Block = d.rest()
	}
	d.note(d.eye.End())
	if !ok || d.failed {
		return api.Request{}, api.ErrParse
	}
	return r, api.OK
}

// reader reads fields; after the first fault it has failed.
type reader struct {
	eye    *octet.Eye
	failed bool
}

func (d *reader) fixed(size int) uint64 {
	n, e := d.eye.Fixed(size)
	d.note(e)
	return n
}

func (d *reader) hash() api.Hash {
	var h api.Hash
	b, e := d.eye.Raw(len(h))
	d.note(e)
	copy(h[:], b)
	return h
}

func (d *reader) script() []byte {
	b, e := d.eye.Bytes(api.MaxRaw)
	d.note(e)
	return b
}

func (d *reader) rest() []byte {
	b, e := d.eye.Raw(d.eye.Left())
	d.note(e)
	return b
}

func (d *reader) note(e api.Errno) {
	if e != api.OK {
		d.failed = true
	}
}
