package chain_test

import (
	"math/rand"
	"slices"
	"testing"

	"purser/api"
	"purser/block"
	"purser/chain"
	"purser/coin"
	"purser/rules"
	"purser/sample"
)

func rec(kind int, payload []byte) api.Record { return api.Record{Kind: kind, Payload: payload} }

func added(b api.Block) api.Record { return rec(api.KindBlock, sample.Bytes(b)) }

func named(kind int, b api.Block) api.Record {
	h := sample.Hash(b)
	return rec(kind, h[:])
}

func cutAt(height int) api.Record {
	b, _ := coin.Cut(height)
	return rec(api.KindCut, b)
}

// applied is the record by which a block becomes active behind others.
func applied(t *testing.T, p api.Params, before []api.Block, b api.Block) api.Record {
	t.Helper()
	c := newChain(t, p)
	s := c.Store()
	for _, x := range append(slices.Clone(before), b) {
		changes, e := rules.Connect(p, s, x, sample.Hash(x))
		if e != api.OK || s.Apply(changes) != api.OK {
			t.Fatal(e)
		}
		if x.Header == b.Header {
			encoded, _ := coin.Encode(changes)
			return rec(api.KindApply, encoded)
		}
	}
	return api.Record{}
}

// P28.3
func TestReplay(t *testing.T) {
	p := sample.Params()
	p.Extra = 1
	g := sample.Genesis(p)
	l := line(g, 0, 3)
	other := line(g, 20, 2)
	one, two := applied(t, p, nil, l[0]), applied(t, p, l[:1], l[1])
	second := applied(t, p, nil, other[0])
	wrongChanges, _ := coin.Encode(api.Apply{Height: 2, Block: sample.Hash(l[1]), Spends: []api.Spend{{Point: api.Outpoint{N: 5}}}})
	long := append(slices.Clone(sample.Bytes(l[0])), 0)
	start := []api.Record{added(l[0]), one, added(other[0])}
	for name, c := range map[string]struct {
		group []api.Record
		e     api.Errno
	}{
		"nothing":                 {nil, api.OK},
		"a block":                 {[]api.Record{added(l[1])}, api.OK},
		"a block twice":           {[]api.Record{added(l[1]), added(l[1])}, api.ErrChain},
		"a block that is there":   {[]api.Record{added(l[0])}, api.ErrChain},
		"the genesis block":       {[]api.Record{added(g)}, api.ErrChain},
		"no block":                {[]api.Record{rec(api.KindBlock, nil)}, api.ErrChain},
		"more than a block":       {[]api.Record{rec(api.KindBlock, long)}, api.ErrChain},
		"an orphan":               {[]api.Record{added(l[2])}, api.OK},
		"an orphan twice":         {[]api.Record{added(l[2]), added(l[2])}, api.ErrChain},
		"too many orphans":        {[]api.Record{added(l[2]), added(sample.Child(l[2], 9, 5))}, api.ErrChain},
		"an orphan dropped":       {[]api.Record{added(l[2]), named(api.KindDropped, l[2]), added(sample.Child(l[2], 9, 5))}, api.OK},
		"none dropped":            {[]api.Record{named(api.KindDropped, l[2])}, api.ErrChain},
		"dropped from the tree":   {[]api.Record{named(api.KindDropped, l[0])}, api.ErrChain},
		"dropped, no hash":        {[]api.Record{added(l[2]), rec(api.KindDropped, make([]byte, 31))}, api.ErrChain},
		"joined":                  {[]api.Record{added(l[2]), added(l[1]), named(api.KindJoined, l[2])}, api.OK},
		"joined twice":            {[]api.Record{added(l[2]), added(l[1]), named(api.KindJoined, l[2]), named(api.KindJoined, l[2])}, api.ErrChain},
		"joined without a parent": {[]api.Record{added(l[2]), named(api.KindJoined, l[2])}, api.ErrChain},
		"none joined":             {[]api.Record{named(api.KindJoined, l[2])}, api.ErrChain},
		"joined, no hash":         {[]api.Record{rec(api.KindJoined, make([]byte, 33))}, api.ErrChain},
		"marked":                  {[]api.Record{named(api.KindMarked, other[0])}, api.OK},
		"marked twice":            {[]api.Record{named(api.KindMarked, other[0]), named(api.KindMarked, other[0])}, api.OK},
		"an active one marked":    {[]api.Record{named(api.KindMarked, l[0])}, api.OK},
		"the root marked":         {[]api.Record{named(api.KindMarked, g)}, api.ErrChain},
		"none marked":             {[]api.Record{named(api.KindMarked, l[1])}, api.ErrChain},
		"an orphan marked":        {[]api.Record{added(l[2]), named(api.KindMarked, l[2])}, api.ErrChain},
		"marked, no hash":         {[]api.Record{rec(api.KindMarked, nil)}, api.ErrChain},
		"cut":                     {[]api.Record{cutAt(0)}, api.OK},
		"cut at the tip":          {[]api.Record{cutAt(1)}, api.OK},
		"cut above it":            {[]api.Record{cutAt(2)}, api.ErrChain},
		"no cut":                  {[]api.Record{rec(api.KindCut, make([]byte, 3))}, api.ErrChain},
		"applied":                 {[]api.Record{added(l[1]), two}, api.OK},
		"applied, no block":       {[]api.Record{two}, api.ErrChain},
		"applied twice":           {[]api.Record{one}, api.ErrChain},
		"applied elsewhere":       {[]api.Record{second}, api.ErrChain},
		"cut and applied":         {[]api.Record{cutAt(0), second}, api.OK},
		"cut, applied behind":     {[]api.Record{cutAt(0), added(l[1]), two}, api.ErrChain},
		"applied again":           {[]api.Record{cutAt(0), one}, api.OK},
		"of another height":       {[]api.Record{added(l[1]), applied(t, p, nil, sample.Child(g, 77, 5))}, api.ErrChain},
		"changes do not fit":      {[]api.Record{added(l[1]), rec(api.KindApply, wrongChanges)}, api.ErrChain},
		"no changes":              {[]api.Record{added(l[1]), rec(api.KindApply, nil)}, api.ErrChain},
		"parameters":              {[]api.Record{rec(api.KindParams, nil)}, api.ErrChain},
		"another kind":            {[]api.Record{rec(7, nil)}, api.ErrChain},
		"-1":                      {[]api.Record{rec(-1, nil)}, api.ErrChain},
		"the last one is wrong":   {[]api.Record{added(l[1]), two, added(l[2]), cutAt(9)}, api.ErrChain},
	} {
		b := newBench(t, p)
		b.groups = append(b.groups, start)
		if e := b.c.Replay(start); e != api.OK {
			t.Fatal(e)
		}
		before := b.c.Copy()
		if e := b.c.Replay(c.group); e != c.e {
			t.Error(name, e)
		}
		b.groups = append(b.groups, c.group)
		if c.e != api.OK {
			b.same(before)
		} else {
			b.again()
		}
	}
}

// P28.2: changes that do not fit, after records that no submission reported
func TestErrChain(t *testing.T) {
	p := sample.Params()
	g := sample.Genesis(p)
	c := newChain(t, p)
	l := line(g, 0, 2)
	changes, _ := coin.Encode(api.Apply{Height: 1, Block: sample.Hash(l[0]), Burnt: api.MaxMoney - 50, Left: api.MaxMoney})
	if e := c.Replay([]api.Record{added(l[0]), rec(api.KindApply, changes)}); e != api.OK {
		t.Fatal(e)
	}
	if reply, group, e := c.Submit(sample.Bytes(l[1])); e != api.ErrChain || reply != (api.Reply{}) || group != nil {
		t.Error(reply, e)
	}
	if c.Tip() != sample.Hash(l[0]) || c.Status(sample.Hash(l[1])) != 0 {
		t.Error("something changed")
	}
}

// P28.2: orphans that records left in the pool, although their parents are bad
func TestOrphanOfMarked(t *testing.T) {
	p := sample.Params()
	g := sample.Genesis(p)
	c := newChain(t, p)
	x := sample.Child(g, 0, 5)
	y := sample.Child(x, 1, 5)
	z := sample.Child(y, 2, 5)
	if e := c.Replay([]api.Record{added(y), added(z), added(x), named(api.KindMarked, x)}); e != api.OK {
		t.Fatal(e)
	}
	reply, group, e := c.Submit(sample.Bytes(sample.Child(g, 3, 5)))
	if e != api.OK || reply.Status != active || !slices.Equal(kinds(group), []int{1, 5, 5, 4}) {
		t.Error(reply, kinds(group), e)
	}
	if e := c.Replay([]api.Record{named(api.KindMarked, sample.Child(g, 9, 5))}); e != api.ErrChain {
		t.Error(e)
	}
}

// P28.2, P28.6
func TestForests(t *testing.T) {
	r := rand.New(rand.NewSource(1))
	seen := map[int]int{}
	for range 60 {
		p := sample.Params()
		p.Extra, p.Depth = r.Intn(8), 1+r.Intn(4)
		l := sample.Forest(p, 30, r.Intn)
		b := newBench(t, p)
		for _, x := range append(l, l...) {
			before := b.c.Copy()
			reply, group, e := b.c.Submit(sample.Bytes(x))
			b.same(before)
			seen[-int(e)]++
			if e != api.OK {
				if reply != (api.Reply{}) || group != nil || e == api.ErrChain {
					t.Fatal(reply, e)
				}
				continue
			}
			seen[reply.Status]++
			if e := b.c.Replay(group); e != api.OK {
				t.Fatal("not applicable", e)
			}
			b.groups = append(b.groups, group)
			if b.c.Status(sample.Hash(x)) != reply.Status || (reply.Err != api.OK) != (reply.Status == marked) || reply.Hash != sample.Hash(x) {
				t.Fatal(reply)
			}
			b.check()
		}
		b.again()
	}
	for _, what := range []int{active, side, orphan, marked, -int(api.ErrKnown), -int(api.ErrOrphans), -int(api.ErrDepth), -int(api.ErrBranch), -int(api.ErrTime)} {
		if seen[what] == 0 {
			t.Error("never seen:", what)
		}
	}
}

// P28.2: what became of a block does not depend on bytes that follow in memory
func TestSubmitCopies(t *testing.T) {
	p := sample.Params()
	c := newChain(t, p)
	x := sample.Child(sample.Genesis(p), 0, 5)
	room := append(sample.Bytes(x), 1, 2, 3)
	reply, group, e := c.Submit(room[:len(room)-3])
	if e != api.OK || reply.Status != active {
		t.Fatal(reply, e)
	}
	if y, e := block.Decode(group[0].Payload); e != api.OK || !block.Same(x, y) {
		t.Error(e)
	}
	var none *chain.Chain
	if none.Status(sample.Hash(x)) != 0 {
		t.Error("no chain knows a block")
	}
}
