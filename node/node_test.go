package node_test

import (
	"bytes"
	"encoding/binary"
	"fmt"
	"math"
	"slices"
	"testing"

	"purser/api"
	"purser/chain"
	"purser/disk"
	"purser/explorer"
	"purser/log"
	"purser/node"
	"purser/sample"
)

const size = 1000 // at which segments are closed

func newDisk(t *testing.T, room int) *disk.Disk {
	t.Helper()
	d, e := disk.New(room)
	if e != api.OK {
		t.Fatal(e)
	}
	return d
}

func open(t *testing.T, d *disk.Disk, p api.Params) *node.Node {
	t.Helper()
	n, e := node.Open(d, p, size)
	if e != api.OK {
		t.Fatal(e)
	}
	return n
}

func command(t *testing.T, r api.Request) []byte {
	t.Helper()
	b, e := explorer.Encode(r)
	if e != api.OK {
		t.Fatal(e)
	}
	return b
}

func submitted(b api.Block) []byte { return append([]byte{api.AskSubmit}, sample.Bytes(b)...) }

// replied is a reply with an error and data.
func replied(e api.Errno, data ...[]byte) []byte {
	return append(binary.LittleEndian.AppendUint16(nil, uint16(e)), slices.Concat(data...)...)
}

// became is the reply to a submission.
func became(b api.Block, status int, e api.Errno) []byte {
	hash := sample.Hash(b)
	return replied(api.OK, []byte{byte(status), byte(e), byte(e >> 8)}, hash[:])
}

func do(t *testing.T, n *node.Node, command, want []byte) {
	t.Helper()
	if got := n.Do(command); !bytes.Equal(got, want) {
		t.Fatalf("%.20x: %x, not %x", command, got, want)
	}
}

// look is all that can be seen of a chain, with the status of these blocks.
func look(c *chain.Chain, l []api.Block) string {
	s := c.Store()
	var b bytes.Buffer
	fmt.Fprintf(&b, "tip %x orphans %x\n", c.Tip(), c.Orphans())
	for height := range s.Tip() + 1 {
		info, _ := s.Info(height)
		at, _ := c.At(height)
		rich, _ := s.Rich(100, height)
		fmt.Fprintf(&b, "%v %x %v\n", info, at, rich)
	}
	for _, x := range l {
		n, _ := c.Node(sample.Hash(x))
		fmt.Fprintf(&b, "%d %d %v, ", c.Status(sample.Hash(x)), n.Seen, n.Marked)
	}
	fmt.Fprintf(&b, "%v", s.Every())
	return b.String()
}

// The chapter's examples.
func TestExamples(t *testing.T) {
	p := sample.Params()
	d := newDisk(t, 100000)
	n := open(t, d, p)
	hash := sample.Hash(sample.Genesis(p))
	do(t, n, []byte{0x0A}, replied(api.OK, make([]byte, 4), hash[:]))
	do(t, n, nil, []byte{0x22, 0x01})
	do(t, n, []byte{0x01}, []byte{0x18, 0x01})
	other := p
	other.Time++
	if n, e := node.Open(d, other, size); n != nil || e != api.ErrParams {
		t.Error(e)
	}
	if n, e := node.Open(d, p, 1); n != nil || e != api.ErrLog {
		t.Error(e)
	}
}

// P30.1
func TestOpen(t *testing.T) {
	p := sample.Params()
	d := newDisk(t, 100000)
	if n, e := node.Open(nil, api.Params{}, 0); n != nil || e != api.ErrNil {
		t.Error(e)
	}
	if n, e := node.Open(d, api.Params{}, 0); n != nil || e != api.ErrPow || len(d.Names()) != 0 {
		t.Error(e)
	}
	if n, e := node.Open(&disk.Disk{}, p, size); n != nil || e != api.ErrNil {
		t.Error(e)
	}
	n := open(t, d, p)
	if n.Count() != 1 || n.Shut() {
		t.Error(n.Count(), n.Shut())
	}
	first, _ := chain.First(p)
	l, e := log.Open(d, size)
	if e != api.OK || l.Count() != 1 || len(l.Groups()[0]) != 2 || !bytes.Equal(l.Groups()[0][1].Payload, first[1].Payload) {
		t.Error("the first group", e)
	}
	for name, change := range map[string]func(p *api.Params){
		"limit": func(p *api.Params) { p.Limit = 0x207FFFFE }, "every": func(p *api.Params) { p.Every-- }, "span": func(p *api.Params) { p.Span++ },
		"subsidy": func(p *api.Params) { p.Subsidy++ }, "halving": func(p *api.Params) { p.Halving++ }, "maturity": func(p *api.Params) { p.Maturity++ },
		"depth": func(p *api.Params) { p.Depth++ }, "extra": func(p *api.Params) { p.Extra++ }, "time": func(p *api.Params) { p.Time++ },
	} {
		other := p
		change(&other)
		if n, e := node.Open(d, other, size); n != nil || e != api.ErrParams {
			t.Error(name, e)
		}
	}
	d.Fall(api.Fall{})
	if n, e := node.Open(d, p, size); n != nil || e != api.ErrDown {
		t.Error(e)
	}
	for room := range 400 {
		n, e := node.Open(newDisk(t, room), p, size)
		if e != api.OK && e != api.ErrFull || (n == nil) != (e != api.OK) {
			t.Fatal(room, e)
		}
	}
}

// P30.1: logs that are none of this node
func TestWrongGroups(t *testing.T) {
	p := sample.Params()
	first, _ := chain.First(p)
	block := sample.Bytes(sample.Child(sample.Genesis(p), 0, 5))
	for name, c := range map[string]struct {
		groups [][]api.Record
		e      api.Errno
	}{
		"its own":        {[][]api.Record{first}, api.OK},
		"one more":       {[][]api.Record{first, {{Kind: api.KindBlock, Payload: block}}}, api.OK},
		"another first":  {[][]api.Record{{{Kind: api.KindBlock, Payload: block}}}, api.ErrParams},
		"less":           {[][]api.Record{first[:1]}, api.ErrParams},
		"more":           {[][]api.Record{append(slices.Clone(first), first[0])}, api.ErrParams},
		"another kind":   {[][]api.Record{{{Kind: 2, Payload: first[0].Payload}, first[1]}}, api.ErrParams},
		"twice":          {[][]api.Record{first, first}, api.ErrNode},
		"not applicable": {[][]api.Record{first, {{Kind: api.KindMarked}}}, api.ErrNode},
		"the same again": {[][]api.Record{first, {{Kind: api.KindBlock, Payload: block}}, {{Kind: api.KindBlock, Payload: block}}}, api.ErrNode},
		"both wrong":     {[][]api.Record{first[:1], first}, api.ErrParams},
	} {
		d := newDisk(t, 100000)
		l, e := log.Open(d, size)
		if e != api.OK {
			t.Fatal(e)
		}
		for _, group := range c.groups {
			if e := l.Append(group); e != api.OK {
				t.Fatal(e)
			}
		}
		n, e := node.Open(d, p, size)
		if e != c.e || (n == nil) != (e != api.OK) || e == api.OK && n.Count() != len(c.groups) {
			t.Error(name, e)
		}
	}
}

// P30.2
func TestDo(t *testing.T) {
	p := sample.Params()
	g := sample.Genesis(p)
	n := open(t, newDisk(t, 100000), p)
	a := sample.Child(g, 0, 5)
	b := sample.Child(a, 1, 5)
	wrong := sample.Child(a, 2, 51)
	side := sample.Child(g, 3, 5)
	do(t, n, submitted(b), became(b, api.StatusOrphan, api.OK))
	do(t, n, submitted(a), became(a, api.StatusActive, api.OK))
	do(t, n, submitted(side), became(side, api.StatusSide, api.OK))
	do(t, n, submitted(wrong), became(wrong, api.StatusSide, api.OK))
	marked := sample.Child(b, 4, 51)
	do(t, n, submitted(marked), became(marked, api.StatusMarked, api.ErrClaim))
	do(t, n, submitted(marked), replied(api.ErrKnown))
	do(t, n, submitted(sample.Child(marked, 5, 5)), replied(api.ErrBranch))
	if n.Count() != 6 {
		t.Error(n.Count())
	}
	do(t, n, []byte{api.AskCheck}, replied(api.OK))
	do(t, n, []byte{api.AskCheck}, replied(api.OK))
	for _, wrong := range [][]byte{{0}, {12}, {api.AskTip, 0}, {api.AskCheck, 0}, {api.AskInfo}, {api.AskCoin, 1, 2}} {
		do(t, n, wrong, replied(api.ErrParse))
	}
	do(t, n, append([]byte{api.AskSubmit}, make([]byte, 200001)...), replied(api.ErrParse))
	do(t, n, append([]byte{api.AskSubmit}, make([]byte, 200000)...), replied(api.ErrRaw))
	do(t, n, command(t, api.Request{Kind: api.AskInfo, Height: 3}), replied(api.ErrHeight))
	do(t, n, command(t, api.Request{Kind: api.AskTx}), replied(api.ErrUnknown))
	do(t, n, command(t, api.Request{Kind: api.AskBalance, Height: 2, Script: sample.Yes()}), replied(api.OK, []byte{10, 0, 0, 0, 0, 0, 0, 0}))
	hash := sample.Hash(b)
	do(t, n, command(t, api.Request{Kind: api.AskAt, Height: 2}), replied(api.OK, hash[:], sample.Bytes(b)))
	hash = sample.Hash(side)
	do(t, n, command(t, api.Request{Kind: api.AskBlock, Hash: hash}), replied(api.OK, []byte{255, 255, 255, 255}, sample.Bytes(side)))
}

// P30.2, P30.3
func TestShut(t *testing.T) {
	p := sample.Params()
	g := sample.Genesis(p)
	for name, command := range map[string][]byte{"submit": submitted(sample.Child(g, 0, 5)), "check": {api.AskCheck}} {
		d := newDisk(t, 100000)
		n := open(t, d, p)
		d.Fall(api.Fall{})
		hash := sample.Hash(g)
		do(t, n, []byte{api.AskTip}, replied(api.OK, make([]byte, 4), hash[:]))
		if n.Shut() {
			t.Error(name)
		}
		do(t, n, command, replied(api.ErrDown))
		if !n.Shut() || n.Count() != 1 || n.Chain().Tip() != hash {
			t.Error(name, n.Shut(), n.Count())
		}
		d.Boot()
		for _, b := range [][]byte{{api.AskTip}, nil, {99}, command} {
			do(t, n, b, replied(api.ErrShut))
		}
		n = open(t, d, p)
		if n.Shut() || n.Count() != 1 {
			t.Error(name, n.Shut(), n.Count())
		}
	}
}

// P30.2: errors of the log that shut a node, and those that do not
func TestMostSegments(t *testing.T) {
	p := sample.Params()
	d := newDisk(t, 1<<24)
	l, e := log.Open(d, 64)
	if e != api.OK {
		t.Fatal(e)
	}
	first, _ := chain.First(p)
	last := sample.Genesis(p)
	l.Append(first)
	for tag := range 999 {
		last = sample.Child(last, tag, 5)
		if e := l.Append([]api.Record{{Kind: api.KindBlock, Payload: sample.Bytes(last)}}); e != api.OK {
			t.Fatal(e)
		}
	}
	n, e := node.Open(d, p, 64)
	if e != api.OK || n.Count() != 1000 {
		t.Fatal(e)
	}
	do(t, n, []byte{api.AskCheck}, replied(api.OK))
	next := sample.Child(sample.Genesis(p), 5000, 5)
	if e, _, _ := node.Parse(n.Do(submitted(next))); e != api.OK || n.Shut() {
		t.Fatal(e)
	}
	do(t, n, []byte{api.AskCheck}, replied(api.ErrLog))
	if !n.Shut() {
		t.Error("an error of the log other than ErrFull and ErrSegment")
	}
}

// P30.3
func TestParse(t *testing.T) {
	for _, c := range []struct {
		reply, data []byte
		e           api.Errno
		ok          bool
	}{
		{nil, nil, api.OK, false},
		{[]byte{0}, nil, api.OK, false},
		{[]byte{1}, nil, api.OK, false},
		{[]byte{0, 0}, nil, api.OK, true},
		{[]byte{0, 0, 0}, []byte{0}, api.OK, true},
		{[]byte{0, 0, 5, 6, 7}, []byte{5, 6, 7}, api.OK, true},
		{[]byte{0x22, 1}, nil, api.ErrParse, true},
		{[]byte{0x22, 1, 0}, nil, api.OK, false},
		{[]byte{1, 0}, nil, api.ErrNil, true},
		{[]byte{0xFF, 0xFF}, nil, 65535, true},
		{[]byte{0, 1, 0}, nil, api.OK, false},
	} {
		if e, data, ok := node.Parse(c.reply); e != c.e || ok != c.ok || !bytes.Equal(data, c.data) {
			t.Errorf("%x: %d, %x, %v", c.reply, e, data, ok)
		}
	}
}

func TestNoNode(t *testing.T) {
	for _, n := range []*node.Node{nil, {}} {
		for _, b := range [][]byte{nil, {api.AskTip}, {99}} {
			do(t, n, b, replied(api.ErrNil))
		}
		if n.Chain() != nil || n.Shut() || n.Count() != 0 {
			t.Error("no node has something")
		}
	}
}

// P30.4
func TestNothingIsShared(t *testing.T) {
	p := sample.Params()
	d := newDisk(t, 100000)
	n := open(t, d, p)
	a := sample.Child(sample.Genesis(p), 0, 5)
	command := submitted(a)
	reply := n.Do(command)
	clear(command)
	_, data, _ := node.Parse(reply)
	clear(data)
	if !bytes.Equal(reply, became(a, api.StatusActive, api.OK)) {
		t.Error("Parse gives its argument's memory")
	}
	n.Chain().Replay([]api.Record{{Kind: api.KindCut, Payload: make([]byte, 4)}})
	clear(n.Do([]byte{api.AskTip}))
	hash := sample.Hash(a)
	do(t, n, []byte{api.AskTip}, replied(api.OK, []byte{1, 0, 0, 0}, hash[:]))
	again := open(t, d, p)
	if look(again.Chain(), []api.Block{a}) != look(n.Chain(), []api.Block{a}) {
		t.Error("another state")
	}
}

// P0.5, P30.5: more records than fit into a group
func TestTooMuchForAGroup(t *testing.T) {
	p := sample.Params()
	p.Maturity, p.Extra = 1, 50
	last := sample.Child(sample.Genesis(p), 0, 5)
	l := []api.Block{last}
	for tag := 1; tag < 19; tag++ {
		points := []api.Outpoint{sample.Point(last.Txs[0], 0)}
		var txs []api.Tx
		for range 38 {
			x := sample.Pay(points, slices.Repeat([]api.Out{{}}, 50)...)
			x.In[0].Script = sample.Yes()
			if len(txs) == 0 {
				x.In[0].Script = nil
			}
			txs = append(txs, x)
			points = []api.Outpoint{sample.Point(x, 0)}
		}
		last = sample.Child(last, tag, 5, txs...)
		l = append(l, last)
	}
	d := newDisk(t, 1<<24)
	n := open(t, d, p)
	for _, b := range l[1:] {
		do(t, n, submitted(b), became(b, api.StatusOrphan, api.OK))
	}
	before, bytesBefore := look(n.Chain(), l), d.Left()
	if reply, _, e := n.Chain().Submit(sample.Bytes(l[0])); e != api.OK || reply.Status != api.StatusActive {
		t.Fatal("a chain in memory", reply, e)
	}
	do(t, n, submitted(l[0]), replied(api.ErrSegment))
	if look(n.Chain(), l) != before || n.Shut() || n.Count() != 19 || d.Left() != bytesBefore {
		t.Error("something changed")
	}
	do(t, n, submitted(l[0]), replied(api.ErrSegment))
	if look(open(t, d, p).Chain(), l) != before {
		t.Error("another state on the disk")
	}
}

// P30.4, P0.4: at every height
func checkSums(t *testing.T, p api.Params, n *node.Node) {
	t.Helper()
	minted := int64(0)
	for height := 0; ; height++ {
		e, data, ok := node.Parse(n.Do(command(t, api.Request{Kind: api.AskInfo, Height: uint32(height)})))
		if e == api.ErrHeight {
			return
		}
		if e != api.OK || !ok {
			t.Fatal(e)
		}
		subsidy := p.Subsidy
		for range height / p.Halving {
			subsidy /= 2
		}
		minted += subsidy
		total, burnt, left := binary.LittleEndian.Uint64(data[40:]), binary.LittleEndian.Uint64(data[48:]), binary.LittleEndian.Uint64(data[56:])
		if int64(total) != minted-int64(burnt)-int64(left) || total > api.MaxMoney || burnt > math.MaxInt64 || left > math.MaxInt64 {
			t.Fatal(height, total, burnt, left, minted)
		}
	}
}
