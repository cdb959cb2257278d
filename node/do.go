package node

import (
	"purser/api"
	"purser/explorer"
	"purser/octet"
)

const (
	errorSize  = 2
	statusSize = 1
)

// Do executes the command b, and returns the reply.
func (n *Node) Do(b []byte) []byte {
	if !n.exists() {
		return reply(nil, api.ErrNil)
	}
	if n.shut {
		return reply(nil, api.ErrShut)
	}
	r, e := explorer.Decode(b)
	if e != api.OK {
		return reply(nil, e)
	}
	return reply(commandOf(r).run(n))
}

// command is a request that a node executes.
type command interface {
	// run returns the data of the reply, or an error.
	run(n *Node) ([]byte, api.Errno)
}

func commandOf(r api.Request) command {
	switch r.Kind {
	case api.AskSubmit:
		return submit(r)
	case api.AskCheck:
		return check{}
	}
	return query(r)
}

// submit is the submission of a block.
type submit api.Request

func (s submit) run(n *Node) ([]byte, api.Errno) {
	became, records, e := n.chain.Submit(s.Block)
	if e != api.OK {
		return nil, e
	}
	if e := n.failed(n.log.Append(records)); e != api.OK {
		return nil, e
	}
	if e := n.chain.Replay(records); e != api.OK {
		return nil, e
	}
	var pen octet.Pen
	pen.Fixed(statusSize, uint64(became.Status))
	pen.Fixed(errorSize, uint64(became.Err))
	pen.Raw(became.Hash[:])
	return pen.All(), api.OK
}

// check is a checkpoint: the open segment of the log is closed.
type check struct{}

func (check) run(n *Node) ([]byte, api.Errno) { return nil, n.failed(n.log.Close()) }

// query is a request to the chain.
type query api.Request

func (q query) run(n *Node) ([]byte, api.Errno) { return explorer.Answer(n.chain, api.Request(q)) }

// reply returns the bytes of a reply.
func reply(data []byte, e api.Errno) []byte {
	var pen octet.Pen
	pen.Fixed(errorSize, uint64(e))
	pen.Raw(data)
	return pen.All()
}

// Parse returns the error and the data of a reply, and whether it may be one.
func Parse(reply []byte) (api.Errno, []byte, bool) {
	eye := octet.Look(reply)
	e, short := eye.Fixed(errorSize)
	data, _ := eye.Raw(eye.Left())
	if short != api.OK || e != uint64(api.OK) && len(data) > 0 {
		return api.OK, nil, false
	}
	return api.Errno(e), data, true
}
