package chain_test

import (
	"bytes"
	"encoding/hex"
	"math"
	"slices"
	"testing"

	"purser/api"
	"purser/block"
	"purser/chain"
	"purser/coin"
	"purser/pow"
	"purser/record"
	"purser/rules"
	"purser/sample"
	"purser/store"
	"purser/wide"
)

const (
	active = api.StatusActive
	side   = api.StatusSide
	orphan = api.StatusOrphan
	marked = api.StatusMarked
)

func newChain(t *testing.T, p api.Params) *chain.Chain {
	t.Helper()
	c, e := chain.New(p)
	if e != api.OK {
		t.Fatal(e)
	}
	return c
}

// line returns n blocks, each behind the one before it, the first one behind a block.
func line(behind api.Block, tag, n int) []api.Block {
	var l []api.Block
	for i := range n {
		behind = sample.Child(behind, tag+i, 5)
		l = append(l, behind)
	}
	return l
}

// bad returns a block that claims too much.
func bad(parent api.Block, tag int) api.Block { return sample.Child(parent, tag, 51) }

func hashes(l ...api.Block) []api.Hash {
	var h []api.Hash
	for _, b := range l {
		h = append(h, sample.Hash(b))
	}
	return h
}

func kinds(l []api.Record) []int {
	k := []int{}
	for _, r := range l {
		k = append(k, r.Kind)
	}
	return k
}

// bench submits blocks to a chain, and replays what is reported on it and on a second chain.
type bench struct {
	*testing.T
	c      *chain.Chain
	groups [][]api.Record
	p      api.Params
}

func newBench(t *testing.T, p api.Params) *bench {
	t.Helper()
	return &bench{T: t, c: newChain(t, p), p: p}
}

// submit fails unless a block becomes this.
func (b *bench) submit(x api.Block, status int, errno api.Errno, want ...int) {
	b.Helper()
	before := b.c.Copy()
	reply, group, e := b.c.Submit(sample.Bytes(x))
	if e != api.OK || reply != (api.Reply{Status: status, Err: errno, Hash: sample.Hash(x)}) {
		b.Fatal(reply, e)
	}
	if len(want) > 0 && !slices.Equal(kinds(group), want) {
		b.Fatal(kinds(group))
	}
	b.same(before)
	if e := b.c.Replay(group); e != api.OK {
		b.Fatal("not applicable", e)
	}
	b.groups = append(b.groups, group)
	if got := b.c.Status(sample.Hash(x)); got != status {
		b.Fatal("Status", got)
	}
	b.check()
}

// refuse fails unless a block is refused with an error, and nothing changes.
func (b *bench) refuse(x api.Block, want api.Errno) {
	b.Helper()
	b.refuseBytes(sample.Bytes(x), want)
}

func (b *bench) refuseBytes(x []byte, want api.Errno) {
	b.Helper()
	before := b.c.Copy()
	if reply, group, e := b.c.Submit(x); e != want || reply != (api.Reply{}) || group != nil {
		b.Fatal(reply, kinds(group), e)
	}
	b.same(before)
}

// same fails unless the chain is in the state of another one.
func (b *bench) same(other *chain.Chain) {
	b.Helper()
	if b.c.Tip() != other.Tip() || !slices.Equal(b.c.Orphans(), other.Orphans()) || !slices.Equal(activeOf(b.c), activeOf(other)) {
		b.Fatal("another state")
	}
	if !coin.SameVersions(b.c.Store().Every(), other.Store().Every()) || b.c.Store().Tip() != other.Store().Tip() {
		b.Fatal("other coins")
	}
	for _, group := range b.groups {
		for _, r := range group {
			if r.Kind != api.KindBlock {
				continue
			}
			x, _ := block.Decode(r.Payload)
			hash := sample.Hash(x)
			m, ok := b.c.Node(hash)
			n, also := other.Node(hash)
			if m != n || ok != also || b.c.Status(hash) != other.Status(hash) {
				b.Fatal("another tree")
			}
			y, ok := b.c.Block(hash)
			z, also := other.Block(hash)
			if ok != also || !block.Same(y, z) || ok && !block.Same(x, y) {
				b.Fatal("other blocks")
			}
		}
	}
}

func activeOf(c *chain.Chain) []api.Hash {
	var l []api.Hash
	for height := 0; ; height++ {
		h, ok := c.At(height)
		if !ok {
			return l
		}
		l = append(l, h)
	}
}

// check fails unless the active chain is a path, its coins are those that its blocks make, and its tip is the best node.
func (b *bench) check() {
	b.Helper()
	s := store.New()
	path := activeOf(b.c)
	for height, hash := range path {
		x, ok := b.c.Block(hash)
		n, _ := b.c.Node(hash)
		if !ok || n.Height != height || height > 0 && n.Header.Prev != path[height-1] || b.c.Status(hash) != active {
			b.Fatal("the active chain is no path", height)
		}
		changes, e := rules.Connect(b.p, s, x, hash)
		if e != api.OK || s.Apply(changes) != api.OK {
			b.Fatal("a wrong block is active", height, e)
		}
	}
	if got := b.c.Store(); got.Tip() != s.Tip() || !coin.SameVersions(got.Every(), s.Every()) {
		b.Fatal("wrong coins")
	}
	tip, _ := b.c.Node(b.c.Tip())
	for _, group := range b.groups {
		for _, r := range group {
			x, _ := block.Decode(r.Payload)
			hash := sample.Hash(x)
			n, ok := b.c.Node(hash)
			if more := wide.Compare(n.Total, tip.Total); ok && b.c.Status(hash) != marked && (more > 0 || more == 0 && n.Seen < tip.Seen) {
				b.Fatal("the tip is not the best node")
			}
		}
	}
}

// again fails unless a second chain, to which the same groups are applied, is in the same state.
func (b *bench) again() {
	b.Helper()
	c := newChain(b.T, b.p)
	for i, group := range b.groups {
		if e := c.Replay(group); e != api.OK {
			b.Fatal("group", i, e)
		}
	}
	b.same(c)
}

// P28.1
func TestNew(t *testing.T) {
	p := sample.Params()
	c, g := newChain(t, p), sample.Genesis(p)
	hash := sample.Hash(g)
	x, ok := c.Block(hash)
	if c.Tip() != hash || !ok || !block.Same(x, g) || c.Status(hash) != active || len(c.Orphans()) != 0 {
		t.Error("a new chain is not that of the genesis block")
	}
	if h, ok := c.At(0); h != hash || !ok {
		t.Error(h, ok)
	}
	for _, height := range []int{-1, 1, math.MaxInt, math.MinInt} {
		if h, ok := c.At(height); h != (api.Hash{}) || ok {
			t.Error(height, h, ok)
		}
	}
	info, e := c.Store().Info(0)
	if e != api.OK || info != (api.Info{Block: hash, Burnt: 50}) {
		t.Error(info, e)
	}
	if n, ok := c.Node(hash); !ok || n.Header != g.Header || n.Height != 0 {
		t.Error(n, ok)
	}
	p.Depth = 0
	if c, e := chain.New(p); c != nil || e != api.ErrPow {
		t.Error(e)
	}
	if l, e := chain.First(p); l != nil || e != api.ErrPow {
		t.Error(e)
	}
}

// P28.1
func TestFirst(t *testing.T) {
	p := api.Params{Limit: 0x207FFFFF, Every: 0x0102, Span: 0x01020304, Subsidy: 0x010203, Halving: 0x0405, Maturity: 0x0607, Depth: 8, Extra: 9, Time: 0x0A0B0C0D}
	l, e := chain.First(p)
	want := "ffff7f20" + "02010000" + "0403020100000000" + "0302010000000000" + "05040000" + "07060000" + "08000000" + "09000000" + "0d0c0b0a"
	if e != api.OK || len(l) != 2 || l[0].Kind != api.KindParams || hex.EncodeToString(l[0].Payload) != want {
		t.Fatal(l, e)
	}
	if l[1].Kind != api.KindBlock || !bytes.Equal(l[1].Payload, sample.Bytes(sample.Genesis(p))) {
		t.Error(l[1])
	}
}

// The chapter's examples.
func TestExamples(t *testing.T) {
	p := sample.Params()
	g := sample.Genesis(p)
	b := newBench(t, p)
	b.refuseBytes(nil, api.ErrRaw)
	b.refuse(g, api.ErrKnown)
	l := line(g, 0, 3)
	b.submit(l[0], active, api.OK, 1, 4)
	b.submit(l[2], orphan, api.OK, 1)
	b.submit(l[1], active, api.OK, 1, 6, 4, 4)
	b.again()
}

// P28.2: the first error of the list
func TestErrors(t *testing.T) {
	p := sample.Params()
	p.Extra = 1
	g := sample.Genesis(p)
	b := newBench(t, p)
	l := line(g, 0, 2)
	x := sample.Child(l[0], 9, 50)
	encoded := sample.Bytes(x)
	b.refuseBytes(encoded[:len(encoded)-1], api.ErrRaw)
	b.refuseBytes(append(slices.Clone(encoded), 0), api.ErrRaw)
	b.submit(l[0], active, api.OK)
	change := func(f func(x *api.Block)) api.Block {
		changed := block.Copy(x)
		f(&changed)
		return changed
	}
	wrongRoot := func(x *api.Block) { x.Header.Root[0]++ }
	far := func(x *api.Block) { x.Header.Prev = api.Hash{7} }
	noWork := func(x *api.Block) {
		for sample.Mined(*x).Header.Nonce == x.Header.Nonce {
			x.Header.Nonce++
		}
	}
	mine := func(x *api.Block) { *x = sample.Mined(*x) }
	all := func(l ...func(x *api.Block)) api.Block {
		return change(func(x *api.Block) {
			for _, f := range l {
				f(x)
			}
		})
	}
	otherBits := func(x *api.Block) { x.Header.Bits = 0x207FFFFE }
	noBits := func(x *api.Block) { x.Header.Bits = 0x217FFFFF }
	early := func(x *api.Block) { x.Header.Time = 1100 } // the median of 1000 and 1100
	b.refuse(all(otherBits, mine), api.ErrBits)
	b.refuse(all(early, mine), api.ErrTime)
	b.refuse(all(noWork), api.ErrWork)
	b.refuse(all(wrongRoot, mine), api.ErrRoot)
	b.refuse(all(wrongRoot, noWork), api.ErrWork)
	b.refuse(all(early, otherBits, wrongRoot, noWork), api.ErrBits)
	b.refuse(all(early, wrongRoot, noWork), api.ErrTime)
	b.refuse(all(func(x *api.Block) { x.Txs = nil }, mine), api.ErrCoinbase)
	b.refuse(all(far, wrongRoot, noWork), api.ErrRoot)
	b.refuse(all(far, noBits), api.ErrBits)
	b.refuse(all(far, noWork), api.ErrWork)
	b.refuse(all(far, func(x *api.Block) { x.Txs = nil }), api.ErrCoinbase)
	b.submit(all(far, early, otherBits, mine), orphan, api.OK, 1)
	b.refuse(all(far, early, otherBits, mine), api.ErrKnown)
	b.refuse(all(far, mine), api.ErrOrphans)
	b.refuse(all(far, noWork), api.ErrWork)
	b.refuse(l[0], api.ErrKnown)
	b.submit(x, active, api.OK, 1, 4)
	b.submit(l[1], side, api.OK, 1)
	b.again()
}

// P28.2
func TestSideBranchesAndReorganization(t *testing.T) {
	p := sample.Params()
	g := sample.Genesis(p)
	b := newBench(t, p)
	first, second := line(g, 0, 3), line(g, 50, 5)
	b.submit(first[0], active, api.OK, 1, 4)
	b.submit(first[1], active, api.OK, 1, 4)
	b.submit(second[0], side, api.OK, 1)
	b.submit(second[1], side, api.OK, 1)
	b.submit(second[2], active, api.OK, 1, 3, 4, 4, 4)
	if !slices.Equal(activeOf(b.c), append(hashes(g), hashes(second[:3]...)...)) {
		t.Error("the active chain")
	}
	for _, x := range first[:2] {
		if b.c.Status(sample.Hash(x)) != side {
			t.Error("the old chain")
		}
	}
	b.submit(first[2], side, api.OK, 1)
	b.submit(second[4], orphan, api.OK, 1)
	b.submit(second[3], active, api.OK, 1, 6, 4, 4)
	b.submit(sample.Child(second[1], 99, 5), side, api.OK, 1)
	cut, e := coin.CutOf(b.groups[4][1].Payload)
	if cut != 0 || e != api.OK {
		t.Error(cut, e)
	}
	b.again()
}

// P28.2: a reorganization that fails
func TestMarked(t *testing.T) {
	p := sample.Params()
	g := sample.Genesis(p)
	b := newBench(t, p)
	b.submit(bad(g, 0), marked, api.ErrClaim, 1, 2)
	b.refuse(sample.Child(bad(g, 0), 1, 5), api.ErrBranch)
	l := line(g, 10, 2)
	b.submit(l[0], active, api.OK, 1, 4)
	b.submit(l[1], active, api.OK, 1, 4)
	other := line(g, 20, 1)
	wrong := bad(other[0], 21)
	after := sample.Child(wrong, 22, 5)
	b.submit(other[0], side, api.OK, 1)
	b.submit(wrong, side, api.OK, 1)
	b.submit(after, marked, api.ErrClaim, 1, 3, 4, 2, 3, 4, 4)
	if b.c.Tip() != sample.Hash(l[1]) || b.c.Status(sample.Hash(wrong)) != marked || b.c.Status(sample.Hash(other[0])) != side {
		t.Error("the chain is not the best of the remaining branches")
	}
	if b.c.Status(sample.Hash(after)) != marked {
		t.Error("what is behind a marked block is not marked")
	}
	if n, ok := b.c.Node(sample.Hash(wrong)); !n.Marked || !ok {
		t.Error(n)
	}
	if n, ok := b.c.Node(sample.Hash(after)); n.Marked || !ok {
		t.Error(n)
	}
	b.refuse(sample.Child(after, 23, 5), api.ErrBranch)
	early := sample.Child(after, 23, 5)
	early.Header.Time = 1
	b.refuse(sample.Mined(early), api.ErrTime)
	b.submit(sample.Child(other[0], 24, 5), side, api.OK, 1)
	b.again()
}

// P28.2: the submitted block is on a branch of its own, and another one is marked
func TestMarkedElsewhere(t *testing.T) {
	p := sample.Params()
	g := sample.Genesis(p)
	b := newBench(t, p)
	l := line(g, 0, 1)
	b.submit(l[0], active, api.OK)
	x := sample.Child(g, 10, 5)
	good, wrong := sample.Child(x, 11, 5), bad(x, 12)
	b.submit(wrong, orphan, api.OK)
	b.submit(sample.Child(wrong, 13, 5), orphan, api.OK)
	b.submit(good, orphan, api.OK)
	b.submit(x, active, api.OK, 1, 6, 6, 6, 3, 4, 2, 4)
	if b.c.Tip() != sample.Hash(good) {
		t.Error("the tip")
	}
	b.again()
}

// P28.2: all of a branch is found to be wrong, and the submitted block is beside it
func TestSideBesideMarked(t *testing.T) {
	p := sample.Params()
	g := sample.Genesis(p)
	b := newBench(t, p)
	l := line(g, 0, 2)
	b.submit(l[0], active, api.OK)
	b.submit(l[1], active, api.OK)
	x := sample.Child(g, 10, 5)
	wrong := bad(x, 12)
	b.submit(wrong, orphan, api.OK)
	b.submit(sample.Child(wrong, 13, 5), orphan, api.OK)
	b.submit(x, side, api.OK, 1, 6, 6, 3, 4, 2, 3, 4, 4)
	b.again()
}

// P28.2: the errors of the coins
func TestErrorsOfCoins(t *testing.T) {
	p := sample.Params()
	g := sample.Genesis(p)
	b := newBench(t, p)
	l := line(g, 0, 3)
	for _, x := range l {
		b.submit(x, active, api.OK)
	}
	at := func(i int) []api.Outpoint { return []api.Outpoint{sample.Point(l[i].Txs[0], 0)} }
	pay := func(i int, value int64) api.Tx { return sample.Pay(at(i), sample.Out(value, sample.Yes())) }
	locked := sample.Pay(at(0), sample.Out(5, sample.No()))
	for tag, c := range []struct {
		l []api.Tx
		e api.Errno
	}{
		{[]api.Tx{sample.Pay([]api.Outpoint{{Tx: api.Hash{1}}}, sample.Out(0, nil))}, api.ErrMissing},
		{[]api.Tx{pay(2, 5)}, api.ErrImmature},
		{[]api.Tx{locked, sample.Pay([]api.Outpoint{sample.Point(locked, 0)}, sample.Out(5, nil))}, api.ErrScript},
		{[]api.Tx{pay(0, 6)}, api.ErrSpends},
	} {
		b.submit(sample.Child(l[2], 100+tag, 5, c.l...), marked, c.e, 1, 2)
	}
	again := sample.Block(sample.Hash(l[2]), l[2].Header.Time+1, sample.Easy, l[0].Txs[0])
	b.submit(again, marked, api.ErrTwice, 1, 2)
	good := sample.Child(l[2], 7, 5, pay(0, 3), pay(1, 5))
	b.submit(good, active, api.OK, 1, 4)
	b.submit(sample.Child(good, 8, 5, pay(0, 3)), marked, api.ErrTwice, 1, 2)
	b.submit(sample.Child(good, 9, 5, pay(0, 2)), marked, api.ErrMissing, 1, 2)
	b.submit(sample.Child(l[2], 10, 5, pay(0, 3)), side, api.OK, 1)
	b.again()
}

// P28.2: what was spent on one branch is unspent on the other
func TestCoinsOfBranches(t *testing.T) {
	p := sample.Params()
	g := sample.Genesis(p)
	b := newBench(t, p)
	l := line(g, 0, 2)
	b.submit(l[0], active, api.OK)
	b.submit(l[1], active, api.OK)
	points := []api.Outpoint{sample.Point(l[0].Txs[0], 0)}
	first := sample.Child(l[1], 10, 5, sample.Pay(points, sample.Out(4, []byte{0x52})))
	second := sample.Child(l[1], 11, 5, sample.Pay(points, sample.Out(3, []byte{0x53})))
	third := sample.Child(second, 12, 5)
	b.submit(first, active, api.OK, 1, 4)
	b.submit(second, side, api.OK, 1)
	if n, _ := b.c.Store().Balance([]byte{0x52}, 3); n != 4 {
		t.Error(n)
	}
	b.submit(third, active, api.OK, 1, 3, 4, 4)
	s := b.c.Store()
	one, _ := s.Balance([]byte{0x52}, 4)
	two, _ := s.Balance([]byte{0x53}, 4)
	if one != 0 || two != 3 {
		t.Error(one, two)
	}
	b.again()
}

// P28.2
func TestDepth(t *testing.T) {
	p := sample.Params()
	p.Depth = 2
	g := sample.Genesis(p)
	b := newBench(t, p)
	l := line(g, 0, 4)
	for _, x := range l {
		b.submit(x, active, api.OK)
	}
	deep := line(l[0], 20, 4)
	for _, x := range deep[:3] {
		b.submit(x, side, api.OK, 1)
	}
	b.refuse(deep[3], api.ErrDepth)
	if b.c.Status(sample.Hash(deep[3])) != 0 {
		t.Error("a refused block is kept")
	}
	good := line(l[1], 40, 3)
	b.submit(good[0], side, api.OK, 1)
	b.submit(good[1], side, api.OK, 1)
	b.submit(good[2], active, api.OK, 1, 3, 4, 4, 4)
	b.again()
}

// P28.2
func TestDepthOfOrphans(t *testing.T) {
	p := sample.Params()
	p.Depth = 1
	g := sample.Genesis(p)
	b := newBench(t, p)
	l := line(g, 0, 2)
	b.submit(l[0], active, api.OK)
	b.submit(l[1], active, api.OK)
	other := line(g, 20, 3)
	b.submit(other[2], orphan, api.OK)
	b.submit(other[1], orphan, api.OK)
	b.refuse(other[0], api.ErrDepth)
	if !slices.Equal(b.c.Orphans(), hashes(other[2], other[1])) {
		t.Error("orphans are lost")
	}
	short := line(l[0], 40, 2)
	b.submit(short[0], side, api.OK)
	b.submit(short[1], active, api.OK, 1, 3, 4, 4)
	b.again()
}

// P28.2: the depth counts from the tip at the beginning, also after a failure
func TestDepthAfterFailure(t *testing.T) {
	p := sample.Params()
	p.Depth = 2
	g := sample.Genesis(p)
	b := newBench(t, p)
	l := line(g, 0, 3)
	for _, x := range l {
		b.submit(x, active, api.OK)
	}
	wrong := bad(l[0], 20)
	behind := line(wrong, 30, 3)
	b.submit(wrong, side, api.OK)
	b.submit(behind[0], side, api.OK)
	b.submit(behind[1], marked, api.ErrClaim, 1, 3, 2, 4, 4)
	b.refuse(behind[2], api.ErrBranch)
	b.again()
}

// P28.2: the pool
func TestOrphans(t *testing.T) {
	p := sample.Params()
	p.Extra = 4
	g := sample.Genesis(p)
	b := newBench(t, p)
	l := line(g, 0, 6)
	for _, i := range []int{5, 2, 4, 3} {
		b.submit(l[i], orphan, api.OK, 1)
	}
	b.refuse(l[1], api.ErrOrphans)
	if !slices.Equal(b.c.Orphans(), hashes(l[5], l[2], l[4], l[3])) {
		t.Error(b.c.Orphans())
	}
	if _, ok := b.c.Block(sample.Hash(l[5])); ok {
		t.Error("an orphan is in the tree")
	}
	b.submit(l[0], active, api.OK, 1, 4)
	b.submit(l[1], active, api.OK, 1, 6, 6, 6, 6, 4, 4, 4, 4, 4)
	if len(b.c.Orphans()) != 0 || b.c.Tip() != sample.Hash(l[5]) {
		t.Error("orphans are left")
	}
	b.again()
}

// P28.2: orphans that are dropped, with all that descend from them
func TestDroppedOrphans(t *testing.T) {
	p := sample.Params()
	p.Extra = 8
	g := sample.Genesis(p)
	b := newBench(t, p)
	x := sample.Child(g, 0, 5)
	early := sample.Child(x, 1, 5)
	early.Header.Time = 1000 // not above the median
	early = sample.Mined(early)
	first, second := sample.Child(early, 2, 5), sample.Child(early, 3, 5)
	third := sample.Child(first, 4, 5)
	good := sample.Child(x, 5, 5)
	for _, y := range []api.Block{third, good, first, early, second} {
		b.submit(y, orphan, api.OK, 1)
	}
	b.submit(x, active, api.OK, 1, 6, 5, 5, 5, 5, 4, 4)
	var dropped []api.Hash
	for _, r := range b.groups[5] {
		if r.Kind == api.KindDropped {
			dropped = append(dropped, api.Hash(r.Payload))
		}
	}
	if !slices.Equal(dropped, hashes(early, third, first, second)) {
		t.Error(dropped)
	}
	if len(b.c.Orphans()) != 0 || b.c.Status(sample.Hash(early)) != 0 || b.c.Tip() != sample.Hash(good) {
		t.Error("orphans are left")
	}
	b.submit(third, orphan, api.OK, 1)
	b.again()
}

// P28.2: orphans behind a bad block
func TestOrphansBehindMarked(t *testing.T) {
	p := sample.Params()
	g := sample.Genesis(p)
	b := newBench(t, p)
	wrong := bad(g, 0)
	next := sample.Child(wrong, 1, 5)
	b.submit(next, orphan, api.OK)
	b.submit(wrong, marked, api.ErrClaim, 1, 6, 2)
	if b.c.Status(sample.Hash(next)) != marked {
		t.Error(b.c.Status(sample.Hash(next)))
	}
	b.again()
}

// P28.2: retargets on the way
func TestRetarget(t *testing.T) {
	p := sample.Params()
	p.Every, p.Span = 4, 400
	b := newBench(t, p)
	last := sample.Genesis(p)
	var path []api.Header
	for height := 1; height < 14; height++ {
		path = append(path, last.Header)
		bits, e := pow.Bits(p, height, func(height int) api.Header { return path[height] })
		if e != api.OK {
			t.Fatal(e)
		}
		wrong := sample.Block(sample.Hash(last), last.Header.Time+50, bits-1, sample.Coinbase(height, sample.Out(1, nil)))
		b.refuse(wrong, api.ErrBits)
		last = sample.Block(sample.Hash(last), last.Header.Time+50, bits, sample.Coinbase(height, sample.Out(1, nil)))
		b.submit(last, active, api.OK, 1, 4)
	}
	if last.Header.Bits == sample.Easy {
		t.Error("no retarget")
	}
	b.again()
}

func TestNoChain(t *testing.T) {
	for _, c := range []*chain.Chain{nil, {}} {
		if reply, l, e := c.Submit(nil); reply != (api.Reply{}) || l != nil || e != api.ErrNil {
			t.Error(reply, e)
		}
		if e := c.Replay([]api.Record{{Kind: 99}}); e != api.ErrNil {
			t.Error(e)
		}
		if x, ok := c.Block(api.Hash{}); ok || !block.Same(x, api.Block{}) {
			t.Error(x, ok)
		}
		if h, ok := c.At(0); ok || h != (api.Hash{}) {
			t.Error(h, ok)
		}
		if n, ok := c.Node(api.Hash{}); ok || n != (api.Node{}) {
			t.Error(n, ok)
		}
		if c.Store() != nil || c.Tip() != (api.Hash{}) || c.Status(api.Hash{}) != 0 || c.Orphans() != nil || c.Copy() != nil {
			t.Error("no chain has something")
		}
	}
}

// P28.4, P28.5
func TestNothingIsShared(t *testing.T) {
	p := sample.Params()
	g := sample.Genesis(p)
	b := newBench(t, p)
	l := line(g, 0, 3)
	encoded := sample.Bytes(l[0])
	_, group, _ := b.c.Submit(encoded)
	clear(encoded)
	kept := slices.Clone(group)
	for i := range kept {
		kept[i].Payload = bytes.Clone(kept[i].Payload)
	}
	if e := b.c.Replay(group); e != api.OK {
		t.Fatal("Submit keeps its argument", e)
	}
	for _, r := range group {
		clear(r.Payload)
	}
	b.groups = append(b.groups, kept)
	x, _ := b.c.Block(sample.Hash(l[0]))
	x.Txs[0].In[0].Script[0] = 99
	b.c.Store().Cut(-1)
	other := b.c.Copy()
	b.again()
	b.check()
	_, more, _ := other.Submit(sample.Bytes(l[1]))
	other.Replay(more)
	b.again()
	if b.c.Tip() != sample.Hash(l[0]) || other.Tip() != sample.Hash(l[1]) {
		t.Error("a copy is not independent")
	}
	if !record.Same(b.groups[0], kept) {
		t.Error("records change")
	}
}
