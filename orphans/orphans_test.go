package orphans_test

import (
	"math"
	"math/rand"
	"slices"
	"testing"

	"purser/api"
	"purser/block"
	"purser/orphans"
)

func newPool(t *testing.T, most int) *orphans.Pool {
	t.Helper()
	p, e := orphans.New(most)
	if e != api.OK {
		t.Fatal(e)
	}
	return p
}

func blockOf(prev api.Hash, n uint32) api.Block {
	return api.Block{Header: api.Header{Prev: prev, Nonce: n}, Txs: []api.Tx{{Version: n, In: []api.In{{Script: []byte{byte(n)}}}}}}
}

func hash(b api.Block) api.Hash { return block.Hash(b.Header) }

func same(a, b []api.Block) bool { return slices.EqualFunc(a, b, block.Same) }

func put(t *testing.T, p *orphans.Pool, l ...api.Block) {
	t.Helper()
	for i, b := range l {
		if e := p.Put(b); e != api.OK {
			t.Fatal(i, e)
		}
	}
}

// agree fails unless the pool contains these blocks, and has its capacity.
func agree(t *testing.T, p *orphans.Pool, most int, l ...api.Block) {
	t.Helper()
	if !same(p.All(), l) || p.Len() != len(l) || p.Room() != most-len(l) {
		t.Fatal(p.Len(), p.Room(), len(l))
	}
	for _, b := range l {
		if !p.Has(hash(b)) {
			t.Fatal("Has", b)
		}
	}
}

// The chapter's examples.
func TestExamples(t *testing.T) {
	p := newPool(t, 2)
	a := api.Hash{1}
	b := blockOf(a, 1)
	c := blockOf(hash(b), 2)
	d := blockOf(api.Hash{2}, 3)
	put(t, p, c, b)
	if e := p.Put(d); e != api.ErrOrphans || p.Room() != 0 {
		t.Error(e, p.Room())
	}
	if x, ok := p.Next(func(x api.Hash) bool { return x == a }); x != hash(b) || !ok {
		t.Error(x, ok)
	}
	if x, ok := p.Next(func(x api.Hash) bool { return false }); x != (api.Hash{}) || ok {
		t.Error(x, ok)
	}
	if l := p.Drop(a); !slices.Equal(l, []api.Hash{hash(c), hash(b)}) || p.Len() != 0 {
		t.Error(l, p.Len())
	}
	agree(t, p, 2)
	put(t, p, d, c)
	agree(t, p, 2, d, c)
}

// P27.1
func TestNew(t *testing.T) {
	for _, most := range []int{-1, 51, math.MaxInt, math.MinInt} {
		if p, e := orphans.New(most); p != nil || e != api.ErrArg {
			t.Error(most, e)
		}
	}
	for _, most := range []int{0, 1, 50} {
		p := newPool(t, most)
		agree(t, p, most)
		var l []api.Block
		for n := range most {
			l = append(l, blockOf(api.Hash{}, uint32(n)))
			put(t, p, l[n])
			agree(t, p, most, l...)
			if e := p.Put(l[0]); e != api.ErrKnown {
				t.Error("ErrKnown comes first", e)
			}
		}
		if e := p.Put(blockOf(api.Hash{}, 99)); e != api.ErrOrphans {
			t.Error(most, e)
		}
		agree(t, p, most, l...)
	}
}

// P27.1
func TestPutAndTake(t *testing.T) {
	p := newPool(t, 5)
	a, b, c := blockOf(api.Hash{1}, 1), blockOf(api.Hash{1}, 2), blockOf(api.Hash{2}, 3)
	put(t, p, a, b, c)
	other := blockOf(api.Hash{1}, 2)
	other.Txs = nil
	if e := p.Put(other); e != api.ErrKnown {
		t.Error("the hash is the header's", e)
	}
	if x, e := p.Take(api.Hash{1}); e != api.ErrTree || !block.Same(x, api.Block{}) {
		t.Error(x, e)
	}
	if x, e := p.Take(hash(b)); e != api.OK || !block.Same(x, b) {
		t.Error(x, e)
	}
	agree(t, p, 5, a, c)
	if x, e := p.Take(hash(b)); e != api.ErrTree || !block.Same(x, api.Block{}) || p.Has(hash(b)) {
		t.Error(x, e)
	}
	put(t, p, b)
	agree(t, p, 5, a, c, b)
}

// P27.2
func TestNext(t *testing.T) {
	p := newPool(t, 5)
	a, b, c := blockOf(api.Hash{1}, 1), blockOf(api.Hash{2}, 2), blockOf(api.Hash{2}, 3)
	put(t, p, a, b, c)
	if x, ok := p.Next(func(x api.Hash) bool { return x == api.Hash{2} }); x != hash(b) || !ok {
		t.Error(x, ok)
	}
	if x, ok := p.Next(func(x api.Hash) bool { return true }); x != hash(a) || !ok {
		t.Error(x, ok)
	}
	if x, ok := p.Next(nil); x != (api.Hash{}) || ok {
		t.Error(x, ok)
	}
	if x, ok := newPool(t, 5).Next(func(x api.Hash) bool { return true }); x != (api.Hash{}) || ok {
		t.Error(x, ok)
	}
	x, ok := p.Next(func(x api.Hash) bool { p.Drop(api.Hash{2}); return x == api.Hash{1} })
	if x != hash(a) || !ok {
		t.Error("a pool that is changed meanwhile", x, ok)
	}
	agree(t, p, 5, a)
}

// P27.3
func TestDrop(t *testing.T) {
	a := blockOf(api.Hash{7}, 1)
	b, c := blockOf(hash(a), 2), blockOf(hash(a), 3)
	d, e := blockOf(hash(b), 4), blockOf(api.Hash{8}, 5)
	for _, c := range []struct {
		x          api.Hash
		in         []api.Block
		drop, keep []api.Block
	}{
		{api.Hash{7}, []api.Block{a, b, c, d, e}, []api.Block{a, b, c, d}, []api.Block{e}},
		{api.Hash{7}, []api.Block{d, c, e, b, a}, []api.Block{d, c, b, a}, []api.Block{e}},
		{hash(a), []api.Block{d, a, b, c, e}, []api.Block{d, b, c}, []api.Block{a, e}},
		{hash(a), []api.Block{d, c, e}, []api.Block{c}, []api.Block{d, e}},
		{hash(b), []api.Block{a, b, c, d, e}, []api.Block{d}, []api.Block{a, b, c, e}},
		{hash(d), []api.Block{a, b, c, d, e}, nil, []api.Block{a, b, c, d, e}},
		{api.Hash{9}, []api.Block{a, b}, nil, []api.Block{a, b}},
		{api.Hash{8}, []api.Block{e}, []api.Block{e}, nil},
	} {
		p := newPool(t, 6)
		put(t, p, c.in...)
		var want []api.Hash
		for _, b := range c.drop {
			want = append(want, hash(b))
		}
		if got := p.Drop(c.x); !slices.Equal(got, want) {
			t.Error(got, want)
		}
		agree(t, p, 6, c.keep...)
	}
}

// P27.3, P27.5
func TestLongLines(t *testing.T) {
	r := rand.New(rand.NewSource(1))
	for range 50 {
		l := []api.Block{blockOf(api.Hash{7}, 0)}
		for n := range 49 {
			l = append(l, blockOf(hash(l[n]), uint32(n+1)))
		}
		cut := r.Intn(50)
		x := l[cut].Header.Prev
		mixed := slices.Clone(l)
		r.Shuffle(50, func(i, j int) { mixed[i], mixed[j] = mixed[j], mixed[i] })
		p := newPool(t, 50)
		put(t, p, mixed...)
		var keep []api.Block
		for _, b := range mixed {
			if slices.ContainsFunc(l[:cut], func(c api.Block) bool { return block.Same(b, c) }) {
				keep = append(keep, b)
			}
		}
		if got := p.Drop(x); len(got) != 50-cut {
			t.Error(len(got), cut)
		}
		agree(t, p, 50, keep...)
		if got := p.Drop(x); len(got) != 0 {
			t.Error(len(got))
		}
	}
}

// P27.2
func TestCopy(t *testing.T) {
	a, b, c := blockOf(api.Hash{1}, 1), blockOf(api.Hash{2}, 2), blockOf(api.Hash{3}, 3)
	p := newPool(t, 2)
	put(t, p, a)
	q := p.Copy()
	put(t, p, b)
	p.Take(hash(a))
	agree(t, q, 2, a)
	put(t, q, c)
	agree(t, q, 2, a, c)
	agree(t, p, 2, b)
	if e := q.Put(b); e != api.ErrOrphans {
		t.Error(e)
	}
	q.Drop(api.Hash{1})
	agree(t, q, 2, c)
}

func TestNoPool(t *testing.T) {
	for _, p := range []*orphans.Pool{nil, {}} {
		if e := p.Put(api.Block{}); e != api.ErrNil {
			t.Error(e)
		}
		if b, e := p.Take(api.Hash{}); e != api.ErrNil || !block.Same(b, api.Block{}) {
			t.Error(b, e)
		}
		if x, ok := p.Next(func(api.Hash) bool { return true }); ok || x != (api.Hash{}) {
			t.Error(x, ok)
		}
		if p.Has(api.Hash{}) || p.Drop(api.Hash{}) != nil || p.All() != nil || p.Len() != 0 || p.Room() != 0 || p.Copy() != nil {
			t.Error("no pool has something")
		}
	}
}

// P27.4
func TestNothingIsShared(t *testing.T) {
	p := newPool(t, 2)
	b := blockOf(api.Hash{1}, 1)
	put(t, p, b)
	b.Txs[0].In[0].Script[0] = 99
	p.All()[0].Txs[0].In[0].Script[0] = 99
	q := p.Copy()
	x, _ := q.Take(hash(b))
	x.Txs[0].In[0].Script[0] = 99
	agree(t, p, 2, blockOf(api.Hash{1}, 1))
}
