package node_test

import (
	"bytes"
	"math/rand"
	"testing"

	"purser/api"
	"purser/chain"
	"purser/explorer"
	"purser/node"
	"purser/sample"
	"purser/tx"
)

// model is a chain in memory that replies as a node does.
type model struct {
	c *chain.Chain
}

func newModel(t *testing.T, p api.Params) *model {
	t.Helper()
	c, e := chain.New(p)
	if e != api.OK {
		t.Fatal(e)
	}
	return &model{c}
}

func (m *model) do(t *testing.T, b []byte) []byte {
	t.Helper()
	r, e := explorer.Decode(b)
	if e != api.OK {
		return replied(e)
	}
	switch r.Kind {
	case api.AskCheck:
		return replied(api.OK)
	case api.AskSubmit:
		reply, group, e := m.c.Submit(r.Block)
		if e != api.OK {
			return replied(e)
		}
		if e := m.c.Replay(group); e != api.OK {
			t.Fatal(e)
		}
		return replied(api.OK, []byte{byte(reply.Status), byte(reply.Err), byte(reply.Err >> 8)}, reply.Hash[:])
	}
	data, e := explorer.Answer(m.c, r)
	return replied(e, data)
}

// queries returns requests of all kinds, about these blocks and others.
func queries(t *testing.T, r *rand.Rand, l []api.Block) [][]byte {
	t.Helper()
	var all [][]byte
	for height := range uint32(6) {
		b := l[r.Intn(len(l))]
		x := b.Txs[r.Intn(len(b.Txs))]
		id, _ := tx.Id(x)
		for _, q := range []api.Request{
			{Kind: api.AskTip}, {Kind: api.AskInfo, Height: height}, {Kind: api.AskAt, Height: height}, {Kind: api.AskRich, Height: height, K: uint32(r.Intn(5))},
			{Kind: api.AskCoin, Height: height, Point: sample.Point(x, 0)}, {Kind: api.AskTrace, Height: height, Point: sample.Point(x, 0)},
			{Kind: api.AskBalance, Height: height, Script: sample.Yes()}, {Kind: api.AskBlock, Hash: sample.Hash(b)}, {Kind: api.AskTx, Hash: id},
		} {
			all = append(all, command(t, q))
		}
	}
	return all
}

// P0.1, P0.3, P0.4, P30.5
func TestAgainstTheModel(t *testing.T) {
	r := rand.New(rand.NewSource(1))
	for range 12 {
		p := sample.Params()
		p.Extra, p.Depth = r.Intn(6), 1+r.Intn(4)
		d := newDisk(t, 1<<22)
		n, m := open(t, d, p), newModel(t, p)
		l := sample.Forest(p, 25, r.Intn)
		for _, b := range append(l, l...) {
			for _, command := range [][]byte{submitted(b), {api.AskCheck}, {byte(r.Intn(256)), byte(r.Intn(256))}} {
				if got, want := n.Do(command), m.do(t, command); !bytes.Equal(got, want) {
					t.Fatalf("%.10x: %x, not %x", command, got, want)
				}
			}
		}
		for _, q := range queries(t, r, l) {
			if got, want := n.Do(q), m.do(t, q); !bytes.Equal(got, want) {
				t.Fatalf("%x: %x, not %x", q, got, want)
			}
		}
		checkSums(t, p, n)
		if got := look(n.Chain(), l); got != look(m.c, l) || got != look(open(t, d, p).Chain(), l) {
			t.Fatal("another state")
		}
	}
}

// P0.1: answers at a height do not depend on the blocks above it
func TestHeightsStay(t *testing.T) {
	p := sample.Params()
	n := open(t, newDisk(t, 1<<22), p)
	var l []api.Block
	answers := map[string][]byte{}
	last := sample.Genesis(p)
	for height := range 12 {
		var more []api.Tx
		if height > 2 {
			more = append(more, sample.Pay([]api.Outpoint{sample.Point(l[height-3].Txs[0], 0)}, sample.Out(4, []byte{0x52})))
		}
		last = sample.Child(last, height, 20, more...)
		l = append(l, last)
		do(t, n, submitted(last), became(last, api.StatusActive, api.OK))
		for _, b := range l {
			for _, q := range []api.Request{
				{Kind: api.AskInfo}, {Kind: api.AskAt}, {Kind: api.AskRich, K: 9}, {Kind: api.AskBalance, Script: sample.Yes()},
				{Kind: api.AskCoin, Point: sample.Point(b.Txs[0], 0)}, {Kind: api.AskTrace, Point: sample.Point(b.Txs[0], 0)},
			} {
				for at := range height + 2 {
					q.Height = uint32(at)
					asked := command(t, q)
					got := n.Do(asked)
					if before, ok := answers[string(asked)]; ok && !bytes.Equal(got, before) {
						t.Fatalf("%x: %x, not %x", asked, got, before)
					}
					answers[string(asked)] = got
				}
			}
		}
	}
}

// steps returns commands for crashes: submissions of many kinds, and checkpoints.
func steps(t *testing.T, p api.Params) (l []api.Block, all [][]byte) {
	t.Helper()
	g := sample.Genesis(p)
	a := sample.Child(g, 0, 5)
	b := sample.Child(a, 1, 5)
	c := sample.Child(b, 2, 5, sample.Pay([]api.Outpoint{sample.Point(a.Txs[0], 0)}, sample.Out(5, []byte{0x52})))
	x := sample.Child(a, 10, 5)
	wrong := sample.Child(x, 11, 51)
	y, z := sample.Child(x, 12, 5), sample.Child(x, 13, 5)
	y2 := sample.Child(y, 14, 5)
	y3 := sample.Child(y2, 15, 5, sample.Pay([]api.Outpoint{sample.Point(a.Txs[0], 0)}, sample.Out(1, []byte{api.OpReturn})))
	late := sample.Child(y3, 16, 5)
	early := sample.Child(late, 17, 5)
	early.Header.Time = 1000
	early = sample.Mined(early)
	lost := sample.Child(early, 18, 5)
	last := sample.Child(late, 19, 5)
	l = []api.Block{a, b, wrong, c, x, lost, early, z, y, y2, y3, last, late}
	for i, b := range l {
		all = append(all, submitted(b))
		if i%4 == 3 {
			all = append(all, []byte{api.AskCheck})
		}
	}
	return l, append(all, submitted(a), []byte{api.AskTip}, []byte{api.AskCheck})
}

// P0.2, P30.5
func TestCrashes(t *testing.T) {
	p := sample.Params()
	l, all := steps(t, p)
	r := rand.New(rand.NewSource(1))
	d := newDisk(t, 1<<20)
	n := open(t, d, p)
	for _, command := range all {
		n.Do(command)
	}
	tip, most := n.Chain().Tip(), d.Operations()
	if tip != sample.Hash(l[11]) || most < 60 {
		t.Fatal("not the commands that are meant", tip, most)
	}
	for at := 1; at <= most+1; at++ {
		for range 12 {
			crash(t, r, p, at, l, all, tip)
		}
	}
}

// fall returns a crash at an operation, by which some bytes survive, and some are damaged.
func fall(r *rand.Rand, at int) api.Fall {
	f := api.Fall{At: at, File: r.Intn(6), Place: r.Intn(600) - 3, Bits: r.Uint32(), Done: r.Intn(2) == 0}
	for range r.Intn(7) {
		f.Keep = append(f.Keep, r.Intn(700)-50)
	}
	return f
}

func crash(t *testing.T, r *rand.Rand, p api.Params, at int, l []api.Block, all [][]byte, tip api.Hash) {
	t.Helper()
	d := newDisk(t, 1<<20)
	d.Arm(fall(r, at))
	m := newModel(t, p)
	next := m.c.Copy() // after the submission that was being executed
	n, e := node.Open(d, p, size)
	if e != api.OK && e != api.ErrDown {
		t.Fatal(at, e)
	}
	for _, command := range all {
		if e != api.OK {
			break
		}
		want := m.do(t, command)
		reply := n.Do(command)
		if !bytes.Equal(reply, want) {
			if !bytes.Equal(reply, replied(api.ErrDown)) || !n.Shut() {
				t.Fatalf("%d: %.9x: %x, not %x", at, command, reply, want)
			}
			m.c, next = next, m.c
			break
		}
		next = m.c.Copy()
	}
	for d.Boot(); r.Intn(2) == 0; d.Boot() {
		d.Arm(fall(r, 1+r.Intn(5)))
		node.Open(d, p, size)
		d.Fall(fall(r, 1))
	}
	d.Arm(api.Fall{At: 1 << 40})
	n = open(t, d, p)
	got := look(n.Chain(), l)
	if got != look(m.c, l) && got != look(next, l) {
		t.Fatal(at, "another state")
	}
	for _, command := range all {
		if e, _, ok := node.Parse(n.Do(command)); !ok || e == api.ErrDown || e == api.ErrShut {
			t.Fatal(at, e)
		}
	}
	if look(n.Chain(), l) != look(open(t, d, p).Chain(), l) {
		t.Fatal(at, "another state on the disk")
	}
	if n.Chain().Tip() != tip {
		t.Fatal(at, "another tip in the end")
	}
}

// P0.5, P30.5: too little room, then more
func TestFull(t *testing.T) {
	p := sample.Params()
	l, all := steps(t, p)
	full := newDisk(t, 1<<20)
	n, m := open(t, full, p), newModel(t, p)
	for _, command := range all {
		n.Do(command)
	}
	used := 1<<20 - full.Left()
	refused := 0
	for room := 600; room < used+400; room += 97 {
		d := newDisk(t, room)
		n, e := node.Open(d, p, size)
		if e != api.OK {
			continue
		}
		m = newModel(t, p)
		d.Create("filler")
		d.Append("filler", make([]byte, min(150, d.Left())))
		for i, command := range all {
			before := look(n.Chain(), l)
			reply := n.Do(command)
			if bytes.Equal(reply, replied(api.ErrFull)) {
				refused++
				if look(n.Chain(), l) != before || n.Shut() {
					t.Fatal(room, i, "something changed")
				}
				d.Truncate("filler", 0)
				reply = n.Do(command)
			}
			if bytes.Equal(reply, replied(api.ErrFull)) {
				break
			}
			if want := m.do(t, command); !bytes.Equal(reply, want) {
				t.Fatalf("%d: %.9x: %x, not %x", room, command, reply, want)
			}
		}
		d.Fall(api.Fall{})
		d.Boot()
		if look(open(t, d, p).Chain(), l) != look(m.c, l) {
			t.Fatal(room, "another state on the disk")
		}
	}
	if refused == 0 {
		t.Error("nothing was refused")
	}
}

// P0.5, P30.5: commands that change nothing
func TestRefused(t *testing.T) {
	p := sample.Params()
	p.Depth, p.Extra = 1, 1
	g := sample.Genesis(p)
	d := newDisk(t, 1<<20)
	n := open(t, d, p)
	a := sample.Child(g, 0, 5)
	b := sample.Child(a, 1, 5)
	x := sample.Child(g, 10, 5)
	y := sample.Child(x, 11, 5)
	z := sample.Child(y, 12, 5)
	for _, b := range []api.Block{a, b, x, y} {
		if e, _, _ := node.Parse(n.Do(submitted(b))); e != api.OK {
			t.Fatal(e)
		}
	}
	l := []api.Block{a, b, x, y, z}
	before, left := look(n.Chain(), l), d.Left()
	do(t, n, submitted(z), replied(api.ErrDepth))
	orphan := sample.Block(api.Hash{1}, 5, sample.Easy, sample.Coinbase(7, sample.Out(1, nil)))
	if look(n.Chain(), l) != before || d.Left() != left {
		t.Error("ErrDepth changes something")
	}
	do(t, n, submitted(orphan), became(orphan, api.StatusOrphan, api.OK))
	before, left = look(n.Chain(), l), d.Left()
	do(t, n, submitted(sample.Block(api.Hash{2}, 5, sample.Easy, sample.Coinbase(8, sample.Out(1, nil)))), replied(api.ErrOrphans))
	if look(n.Chain(), l) != before || d.Left() != left || n.Count() != 6 {
		t.Error("ErrOrphans changes something")
	}
}
