package chain

import (
	"purser/api"
	"purser/block"
	"purser/coin"
)

// Replay applies a group of records, or nothing of it.
func (c *Chain) Replay(group []api.Record) api.Errno {
	if !c.exists() {
		return api.ErrNil
	}
	next := c.Copy()
	for _, r := range group {
		if !next.do(r) {
			return api.ErrChain
		}
	}
	*c = *next
	return api.OK
}

// do applies a record, and reports whether it was applicable; if not, nothing changed.
func (c *Chain) do(r api.Record) bool {
	effect, ok := c.effects()[r.Kind]
	return ok && effect(r.Payload)
}

// effects returns what the records of each kind do.
func (c *Chain) effects() map[int]func(payload []byte) bool {
	return map[int]func(payload []byte) bool{
		api.KindBlock:   c.addBlock,
		api.KindMarked:  c.mark,
		api.KindCut:     c.cut,
		api.KindApply:   c.apply,
		api.KindDropped: c.drop,
		api.KindJoined:  c.join,
	}
}

func (c *Chain) addBlock(payload []byte) bool {
	b, e := block.Decode(payload)
	if e != api.OK {
		return false
	}
	hash := block.Hash(b.Header)
	if c.knows(hash) || c.pool.Has(hash) {
		return false
	}
	if !c.knows(b.Header.Prev) {
		return c.pool.Put(b) == api.OK
	}
	return c.grow(b)
}

// grow adds a block, whose parent is in the tree, to it.
func (c *Chain) grow(b api.Block) bool {
	hash, e := c.tree.Add(b.Header)
	if e != api.OK {
		return false
	}
	c.blocks[hash] = b
	return true
}

func (c *Chain) join(payload []byte) bool {
	hash, ok := hashOf(payload)
	b, there := c.orphan(hash)
	if !ok || !there || !c.grow(b) {
		return false
	}
	_, e := c.pool.Take(hash)
	return e == api.OK
}

func (c *Chain) drop(payload []byte) bool {
	hash, ok := hashOf(payload)
	if !ok {
		return false
	}
	_, e := c.pool.Take(hash)
	return e == api.OK
}

func (c *Chain) mark(payload []byte) bool {
	hash, ok := hashOf(payload)
	return ok && c.tree.Mark(hash) == api.OK
}

func (c *Chain) cut(payload []byte) bool {
	height, e := coin.CutOf(payload)
	if e != api.OK || c.store.Cut(height) != api.OK {
		return false
	}
	c.active = c.active[:height+1]
	return true
}

func (c *Chain) apply(payload []byte) bool {
	changes, e := coin.Decode(payload)
	if e != api.OK {
		return false
	}
	n, ok := c.tree.Node(changes.Block)
	if !ok || n.Height == 0 || n.Header.Prev != c.Tip() || c.store.Apply(changes) != api.OK {
		return false
	}
	c.active = append(c.active, changes.Block)
	return true
}

// orphan returns the orphan with the hash x, and whether there is one.
func (c *Chain) orphan(x api.Hash) (api.Block, bool) {
	b, e := c.pool.Copy().Take(x)
	return b, e == api.OK
}

// hashOf returns the hash that is the payload of a record, and whether it is one.
func hashOf(payload []byte) (api.Hash, bool) {
	if len(payload) != len(api.Hash{}) {
		return api.Hash{}, false
	}
	return api.Hash(payload), true
}
