package chain

import (
	"bytes"
	"iter"

	"purser/api"
	"purser/block"
	"purser/coin"
	"purser/pow"
	"purser/rules"
	"purser/whole"
)

// submission is a copy of a chain on which a block is submitted, and the records of what was done to it.
type submission struct {
	*Chain
	began   api.Hash // the tip at the beginning
	records []api.Record
	failed  []failure
}

// failure is a block that was marked, and why.
type failure struct {
	hash  api.Hash
	errno api.Errno
}

// Submit tells what becomes of the block whose bytes are b, and which records describe it.
func (c *Chain) Submit(b []byte) (api.Reply, []api.Record, api.Errno) {
	if !c.exists() {
		return api.Reply{}, nil, api.ErrNil
	}
	submitted, e := block.Decode(b)
	if e != api.OK {
		return api.Reply{}, nil, api.ErrRaw
	}
	if e := c.judge(submitted); e != api.OK {
		return api.Reply{}, nil, e
	}
	hash := block.Hash(submitted.Header)
	s := &submission{Chain: c.Copy(), began: c.Tip()}
	s.record(api.KindBlock, b)
	if s.knows(hash) {
		s.connectOrphans()
		if e := s.update(); e != api.OK {
			return api.Reply{}, nil, e
		}
	}
	return s.reply(hash), s.records, api.OK
}

// judge returns the first error of a block ahead of everything that it would do.
func (c *Chain) judge(b api.Block) api.Errno {
	hash := block.Hash(b.Header)
	if c.knows(hash) || c.pool.Has(hash) {
		return api.ErrKnown
	}
	if !c.knows(b.Header.Prev) {
		return c.judgeOrphan(b)
	}
	if e := c.judgeHeader(b.Header); e != api.OK {
		return e
	}
	if e := whole.Judge(b); e != api.OK {
		return e
	}
	if c.tree.Bad(b.Header.Prev) {
		return api.ErrBranch
	}
	return api.OK
}

func (c *Chain) judgeOrphan(b api.Block) api.Errno {
	if e := whole.Judge(b); e != api.OK {
		return e
	}
	if e := pow.Own(c.params, b.Header); e != api.OK {
		return e
	}
	if c.pool.Room() == 0 {
		return api.ErrOrphans
	}
	return api.OK
}

// judgeHeader judges a header behind its parent, which is in the tree.
func (c *Chain) judgeHeader(h api.Header) api.Errno {
	parent, _ := c.tree.Node(h.Prev)
	at := func(height int) api.Header {
		n, _ := c.tree.At(parent.Hash, height)
		return n.Header
	}
	return pow.Judge(c.params, h, parent.Height+1, at)
}

// record does what a record tells, reports whether it could be done, and keeps the record.
func (s *submission) record(kind int, payload []byte) bool {
	r := api.Record{Kind: kind, Payload: bytes.Clone(payload)}
	s.records = append(s.records, r)
	return s.do(r)
}

// connectOrphans lets the orphans whose parents are in the tree join it, or drops them.
func (s *submission) connectOrphans() {
	for {
		hash, ok := s.pool.Next(s.knows)
		if !ok {
			return
		}
		b, _ := s.orphan(hash)
		if s.judgeHeader(b.Header) == api.OK && !s.tree.Bad(b.Header.Prev) {
			s.record(api.KindJoined, hash[:])
			continue
		}
		s.record(api.KindDropped, hash[:])
		for _, lost := range s.pool.Copy().Drop(hash) {
			s.record(api.KindDropped, lost[:])
		}
	}
}

// update makes the best node the tip.
func (s *submission) update() api.Errno {
	for best := s.tree.Best(); best != s.Tip(); best = s.tree.Best() {
		if s.tooDeep(best) {
			return api.ErrDepth
		}
		if !s.cutTo(best) || !s.extendTo(best) {
			return api.ErrChain
		}
	}
	return api.OK
}

// tooDeep reports whether too many blocks that were active at the beginning are not on the path to best.
func (s *submission) tooDeep(best api.Hash) bool {
	began, _ := s.tree.Node(s.began)
	return began.Height-s.forkHeight(s.began, best) > s.params.Depth
}

// forkHeight returns the height at which two nodes of the tree have their fork.
func (s *submission) forkHeight(x, y api.Hash) int {
	fork, _ := s.tree.Fork(x, y)
	n, _ := s.tree.Node(fork)
	return n.Height
}

// cutTo removes the active blocks that are not on the path to best.
func (s *submission) cutTo(best api.Hash) bool {
	height := s.forkHeight(s.Tip(), best)
	if height == len(s.active)-1 {
		return true
	}
	payload, e := coin.Cut(height)
	return e == api.OK && s.record(api.KindCut, payload)
}

// extendTo applies the blocks on the path to best up to the first one that fails, which is marked. It reports whether the changes fit.
func (s *submission) extendTo(best api.Hash) bool {
	fits := true
apply:
	for hash, b := range s.ahead(best) {
		changes, failed := rules.Connect(s.params, s.store, b, hash)
		if failed != api.OK {
			s.failed = append(s.failed, failure{hash, failed})
			fits = s.record(api.KindMarked, hash[:])
			break apply
		}
		payload, e := coin.Encode(changes)
		if e != api.OK || !s.record(api.KindApply, payload) {
			fits = false
			break apply
		}
	}
	return fits
}

// ahead yields the blocks on the path to best after the tip, with their hashes.
func (s *submission) ahead(best api.Hash) iter.Seq2[api.Hash, api.Block] {
	path := s.tree.Path(best)[len(s.active):]
	return func(yield func(api.Hash, api.Block) bool) {
		for _, hash := range path {
			if !yield(hash, s.blocks[hash]) {
				return
			}
		}
	}
}

// reply tells what became of the submitted block.
func (s *submission) reply(hash api.Hash) api.Reply {
	status := s.Status(hash)
	if status != api.StatusMarked {
		return api.Reply{Status: status, Hash: hash}
	}
	for _, f := range s.failed {
		if fork, _ := s.tree.Fork(hash, f.hash); fork == f.hash {
			return api.Reply{Status: status, Err: f.errno, Hash: hash}
		}
	}
	return api.Reply{Status: api.StatusSide, Hash: hash}
}
