package explorer_test

import (
	"bytes"
	"encoding/binary"
	"encoding/hex"
	"math"
	"math/rand"
	"slices"
	"strings"
	"testing"

	"purser/api"
	"purser/chain"
	"purser/explorer"
	"purser/octet"
	"purser/rules"
	"purser/sample"
	"purser/store"
	"purser/tx"
)

// source is a store and blocks in memory.
type source struct {
	store  *store.Store
	blocks map[api.Hash]api.Block
}

func (s *source) Store() *store.Store { return s.store }

func (s *source) Block(h api.Hash) (api.Block, bool) {
	b, ok := s.blocks[h]
	return b, ok
}

func (s *source) add(t *testing.T, l ...api.Tx) api.Block {
	t.Helper()
	height := s.store.Tip() + 1
	b := api.Block{Header: api.Header{Nonce: uint32(height)}, Txs: l}
	changes, e := rules.Connect(sample.Params(), s.store, b, sample.Hash(b))
	if e != api.OK || s.store.Apply(changes) != api.OK {
		t.Fatal(height, e)
	}
	s.blocks[sample.Hash(b)] = b
	return b
}

// world is a source with four blocks; its second transactions spend what the first ones made.
func world(t *testing.T) (s *source, l []api.Block) {
	t.Helper()
	s = &source{store.New(), map[api.Hash]api.Block{}}
	yes, burnt := sample.Yes(), []byte{api.OpReturn}
	base := func(tag int, l ...api.Out) api.Tx { return sample.Coinbase(tag, l...) }
	l = append(l, s.add(t, base(0, sample.Out(30, yes), sample.Out(7, []byte{0x52}))))
	l = append(l, s.add(t, base(1, sample.Out(40, yes), sample.Out(3, burnt))))
	spend := sample.Pay([]api.Outpoint{sample.Point(l[0].Txs[0], 0)}, sample.Out(20, []byte{0x52}), sample.Out(0, []byte{0x53}))
	l = append(l, s.add(t, base(2, sample.Out(50, yes)), spend))
	l = append(l, s.add(t, base(3, sample.Out(1, nil))))
	return s, l
}

// writer joins what an answer consists of.
type writer struct{ bytes.Buffer }

func (w *writer) put(l ...any) []byte {
	for _, x := range l {
		switch x := x.(type) {
		case []byte:
			w.Write(x)
		case api.Hash:
			w.Write(x[:])
		default:
			binary.Write(w, binary.LittleEndian, x)
		}
	}
	return w.Bytes()
}

func joined(l ...any) []byte { return new(writer).put(l...) }

// ask fails unless a request is answered with an error and these bytes.
func ask(t *testing.T, s explorer.Source, r api.Request, want api.Errno, b ...any) {
	t.Helper()
	got, e := explorer.Answer(s, r)
	if e != want || !bytes.Equal(got, joined(b...)) {
		t.Errorf("%+v: %x, %d, not %x", r, got, e, joined(b...))
	}
}

func requests() map[string]api.Request {
	p := api.Outpoint{Tx: api.Hash{1, 31: 2}, N: 0x04030201}
	tail := "01" + strings.Repeat("00", 30) + "02"
	point := tail + "01020304"
	return map[string]api.Request{
		"01":                            {Kind: api.AskSubmit},
		"01616263":                      {Kind: api.AskSubmit, Block: []byte("abc")},
		"02" + point + "05060708":       {Kind: api.AskCoin, Point: p, Height: 0x08070605},
		"0302010000":                    {Kind: api.AskInfo, Height: 258},
		"04ffffffff" + "026162":         {Kind: api.AskBalance, Height: math.MaxUint32, Script: []byte("ab")},
		"0400000000" + "00":             {Kind: api.AskBalance},
		"05" + "02010000" + "03000000":  {Kind: api.AskRich, Height: 258, K: 3},
		"06" + point + "00000000":       {Kind: api.AskTrace, Point: p},
		"0709000000":                    {Kind: api.AskAt, Height: 9},
		"08" + tail:                     {Kind: api.AskBlock, Hash: p.Tx},
		"09" + tail:                     {Kind: api.AskTx, Hash: p.Tx},
		"0a":                            {Kind: api.AskTip},
		"0b":                            {Kind: api.AskCheck},
		"05" + "00000000" + "ffffffff":  {Kind: api.AskRich, K: math.MaxUint32},
		"08" + strings.Repeat("00", 32): {Kind: api.AskBlock},
	}
}

func same(a, b api.Request) bool {
	x, y := a, b
	x.Script, x.Block, y.Script, y.Block = nil, nil, nil, nil
	return x.Kind == y.Kind && x.Point == y.Point && x.Height == y.Height && x.K == y.K && x.Hash == y.Hash && bytes.Equal(a.Script, b.Script) && bytes.Equal(a.Block, b.Block)
}

// P29.1
func TestForm(t *testing.T) {
	for s, r := range requests() {
		if e := explorer.Check(r); e != api.OK {
			t.Error(s, e)
		}
		b, e := explorer.Encode(r)
		if e != api.OK || hex.EncodeToString(b) != s {
			t.Errorf("%x, %d, not %s", b, e, s)
		}
		if got, e := explorer.Decode(b); e != api.OK || !same(got, r) {
			t.Errorf("%s: %+v, %d", s, got, e)
		}
		if r.Kind == api.AskSubmit {
			continue
		}
		for n := range b {
			if got, e := explorer.Decode(b[:n]); e != api.ErrParse || !same(got, api.Request{}) {
				t.Error(s, n, e)
			}
		}
		if got, e := explorer.Decode(append(b, 0)); e != api.ErrParse || !same(got, api.Request{}) {
			t.Error(s, "and more", e)
		}
	}
	for _, s := range []string{"", "00", "0c", "ff", "0a00", "0c0000", "0400000000" + "fd0100" + "61", "0400000000" + "fdd107" + strings.Repeat("00", 2001)} {
		b, _ := hex.DecodeString(s)
		if got, e := explorer.Decode(b); e != api.ErrParse || !same(got, api.Request{}) {
			t.Errorf("%.30s: %d", s, e)
		}
	}
}

// P29.1
func TestLimits(t *testing.T) {
	for name, c := range map[string]struct {
		r api.Request
		e api.Errno
	}{
		"longest script": {api.Request{Kind: api.AskBalance, Script: make([]byte, 2000)}, api.OK},
		"longer script":  {api.Request{Kind: api.AskBalance, Script: make([]byte, 2001)}, api.ErrParse},
		"greatest block": {api.Request{Kind: api.AskSubmit, Block: make([]byte, 200000)}, api.OK},
		"greater block":  {api.Request{Kind: api.AskSubmit, Block: make([]byte, 200001)}, api.ErrParse},
		"kind 0":         {api.Request{}, api.ErrParse},
		"kind 12":        {api.Request{Kind: 12}, api.ErrParse},
		"kind -1":        {api.Request{Kind: -1}, api.ErrParse},
		"kind 266":       {api.Request{Kind: 266}, api.ErrParse},
	} {
		if e := explorer.Check(c.r); e != c.e {
			t.Error(name, e)
		}
		b, e := explorer.Encode(c.r)
		if e != c.e || (b == nil) != (e != api.OK) {
			t.Error(name, "Encode", e)
		}
		if got, e := explorer.Decode(b); c.e == api.OK && (e != api.OK || !same(got, c.r)) {
			t.Error(name, "Decode", e)
		}
		if c.e != api.OK {
			ask(t, &source{store: store.New()}, c.r, api.ErrParse)
		}
	}
	if got, e := explorer.Decode(append([]byte{1}, make([]byte, 200001)...)); e != api.ErrParse || !same(got, api.Request{}) {
		t.Error("a greater block", e)
	}
}

// P29.1: fields that a kind does not have
func TestOtherFields(t *testing.T) {
	listed := map[int]string{
		api.AskSubmit: "block", api.AskCoin: "point height", api.AskInfo: "height", api.AskBalance: "height script", api.AskRich: "height k", api.AskTrace: "point height",
		api.AskAt: "height", api.AskBlock: "hash", api.AskTx: "hash", api.AskTip: "", api.AskCheck: "",
	}
	set := map[string]func(r *api.Request){
		"point":  func(r *api.Request) { r.Point.N = 1 },
		"height": func(r *api.Request) { r.Height = 1 },
		"k":      func(r *api.Request) { r.K = 1 },
		"script": func(r *api.Request) { r.Script = []byte{1} },
		"hash":   func(r *api.Request) { r.Hash[31] = 1 },
		"block":  func(r *api.Request) { r.Block = []byte{1} },
	}
	for kind, fields := range listed {
		for name, f := range set {
			r := api.Request{Kind: kind}
			f(&r)
			want := api.ErrParse
			if strings.Contains(" "+fields+" ", " "+name+" ") {
				want = api.OK
			}
			if e := explorer.Check(r); e != want {
				t.Error(kind, name, e)
			}
			b, e := explorer.Encode(r)
			if e != want || (b == nil) != (e != api.OK) {
				t.Error(kind, name, e)
			}
		}
		if e := explorer.Check(api.Request{Kind: kind, Script: []byte{}, Block: []byte{}}); e != api.OK {
			t.Error(kind, "empty fields", e)
		}
	}
}

// P29.4
func TestThereAndBack(t *testing.T) {
	r := rand.New(rand.NewSource(1))
	var all [][]byte
	for s := range requests() {
		b, _ := hex.DecodeString(s)
		all = append(all, b)
	}
	slices.SortFunc(all, bytes.Compare)
	decoded := 0
	for range 5000 {
		b := slices.Clone(all[r.Intn(len(all))])
		b[r.Intn(len(b))] = byte(r.Intn(256))
		q, e := explorer.Decode(b)
		if e != api.OK {
			continue
		}
		decoded++
		if again, e := explorer.Encode(q); e != api.OK || !bytes.Equal(again, b) {
			t.Errorf("%x: %x, %d", b, again, e)
		}
	}
	if decoded < 500 {
		t.Error("few requests were decoded:", decoded)
	}
}

// P29.2
func TestCoinAndTrace(t *testing.T) {
	s, l := world(t)
	first := sample.Point(l[0].Txs[0], 0)
	coin := joined(int64(30), int32(0), byte(1), byte(1), byte(0x51))
	ask(t, s, api.Request{Kind: api.AskCoin, Point: first}, api.OK, byte(1), coin)
	ask(t, s, api.Request{Kind: api.AskCoin, Point: first, Height: 1}, api.OK, byte(1), coin)
	ask(t, s, api.Request{Kind: api.AskCoin, Point: first, Height: 2}, api.OK, byte(0))
	ask(t, s, api.Request{Kind: api.AskCoin, Point: api.Outpoint{N: 5}, Height: 3}, api.OK, byte(0))
	ask(t, s, api.Request{Kind: api.AskCoin, Point: sample.Point(l[2].Txs[1], 1), Height: 3}, api.OK, byte(1), int64(0), int32(2), byte(0), byte(1), byte(0x53))
	ask(t, s, api.Request{Kind: api.AskCoin, Point: first, Height: 4}, api.ErrHeight)
	unspent := joined(coin, int32(0), api.Hash{})
	spender, _ := tx.Id(l[2].Txs[1])
	ask(t, s, api.Request{Kind: api.AskTrace, Point: first, Height: 1}, api.OK, byte(1), unspent)
	ask(t, s, api.Request{Kind: api.AskTrace, Point: first, Height: 3}, api.OK, byte(1), coin, int32(2), spender)
	ask(t, s, api.Request{Kind: api.AskTrace, Point: api.Outpoint{N: 5}, Height: 3}, api.OK, byte(0))
	ask(t, s, api.Request{Kind: api.AskTrace, Point: first, Height: 4}, api.ErrHeight)
	ask(t, s, api.Request{Kind: api.AskTrace, Point: first, Height: math.MaxUint32}, api.ErrHeight)
}

// P29.2
func TestInfoBalanceAndRich(t *testing.T) {
	s, l := world(t)
	ask(t, s, api.Request{Kind: api.AskInfo}, api.OK, int32(0), sample.Hash(l[0]), int32(2), int64(37), int64(0), int64(13))
	ask(t, s, api.Request{Kind: api.AskInfo, Height: 3}, api.OK, int32(3), sample.Hash(l[3]), int32(6), int64(118), int64(3), int64(13+7+10+49))
	ask(t, s, api.Request{Kind: api.AskInfo, Height: 4}, api.ErrHeight)
	for height, want := range []int64{30, 70, 90, 90} {
		ask(t, s, api.Request{Kind: api.AskBalance, Height: uint32(height), Script: sample.Yes()}, api.OK, want)
	}
	ask(t, s, api.Request{Kind: api.AskBalance, Height: 2}, api.OK, int64(0))
	ask(t, s, api.Request{Kind: api.AskBalance, Height: 3}, api.OK, int64(1))
	ask(t, s, api.Request{Kind: api.AskBalance, Height: 4}, api.ErrHeight)
	rich := [][]byte{
		joined(byte(1), byte(0x51), int64(90)), joined(byte(1), byte(0x52), int64(27)), joined(byte(0), int64(1)), joined(byte(1), byte(0x53), int64(0)),
	}
	for k := range 6 {
		n := min(k, 4)
		ask(t, s, api.Request{Kind: api.AskRich, Height: 3, K: uint32(k)}, api.OK, byte(n), slices.Concat(rich[:n]...))
	}
	ask(t, s, api.Request{Kind: api.AskRich, Height: 3, K: math.MaxUint32}, api.OK, byte(4), slices.Concat(rich...))
	ask(t, s, api.Request{Kind: api.AskRich, Height: 4, K: 1}, api.ErrHeight)
}

// P29.4
func TestRichAndBalances(t *testing.T) {
	s, _ := world(t)
	for height := range uint32(4) {
		b, _ := explorer.Answer(s, api.Request{Kind: api.AskRich, Height: height, K: 100})
		eye := octet.Look(b)
		n, _ := eye.Size()
		sum := uint64(0)
		for range n {
			script, _ := eye.Bytes(2000)
			balance, e := eye.Fixed(8)
			if e != api.OK {
				t.Fatal(e)
			}
			sum += balance
			ask(t, s, api.Request{Kind: api.AskBalance, Height: height, Script: script}, api.OK, balance)
		}
		info, _ := s.store.Info(int(height))
		if sum != uint64(info.Total) || eye.End() != api.OK {
			t.Error(height, sum, info.Total)
		}
	}
}

// P29.2
func TestBlocks(t *testing.T) {
	s, l := world(t)
	for height, b := range l {
		hash := sample.Hash(b)
		ask(t, s, api.Request{Kind: api.AskAt, Height: uint32(height)}, api.OK, hash, sample.Bytes(b))
		ask(t, s, api.Request{Kind: api.AskBlock, Hash: hash}, api.OK, int32(height), sample.Bytes(b))
	}
	ask(t, s, api.Request{Kind: api.AskAt, Height: 4}, api.ErrHeight)
	ask(t, s, api.Request{Kind: api.AskBlock, Hash: api.Hash{1}}, api.ErrUnknown)
	ask(t, s, api.Request{Kind: api.AskTip}, api.OK, int32(3), sample.Hash(l[3]))
	side := api.Block{Header: api.Header{Nonce: 99}}
	s.blocks[sample.Hash(side)] = side
	ask(t, s, api.Request{Kind: api.AskBlock, Hash: sample.Hash(side)}, api.OK, uint32(math.MaxUint32), sample.Bytes(side))
	s.blocks[sample.Hash(l[1])] = api.Block{Txs: make([]api.Tx, 1)}
	ask(t, s, api.Request{Kind: api.AskAt, Height: 1}, api.ErrUnknown)
	ask(t, s, api.Request{Kind: api.AskBlock, Hash: sample.Hash(l[1])}, api.ErrUnknown)
	delete(s.blocks, sample.Hash(l[0]))
	ask(t, s, api.Request{Kind: api.AskAt, Height: 0}, api.ErrUnknown)
	ask(t, s, api.Request{Kind: api.AskBlock, Hash: sample.Hash(l[0])}, api.ErrUnknown)
}

// P29.2, P29.4
func TestTransactions(t *testing.T) {
	s, l := world(t)
	for height, b := range l {
		for i, x := range b.Txs {
			id, _ := tx.Id(x)
			encoded, _ := tx.Encode(x)
			ask(t, s, api.Request{Kind: api.AskTx, Hash: id}, api.OK, sample.Hash(b), int32(height), int32(i), encoded)
		}
	}
	ask(t, s, api.Request{Kind: api.AskTx, Hash: api.Hash{1}}, api.ErrUnknown)
	// The same block at two heights, the same transaction twice in a block, and blocks that are missing.
	x, y := sample.Coinbase(9, sample.Out(0, []byte{api.OpReturn})), sample.Coinbase(8, sample.Out(0, []byte{api.OpReturn}))
	twice := api.Block{Header: api.Header{Nonce: 77}, Txs: []api.Tx{x, y, x, y}}
	hash := sample.Hash(twice)
	s.blocks[hash] = twice
	for height := 4; height < 6; height++ {
		if e := s.store.Apply(api.Apply{Height: height, Block: hash}); e != api.OK {
			t.Fatal(e)
		}
	}
	s.store.Apply(api.Apply{Height: 6, Block: api.Hash{5}})
	s.blocks[api.Hash{6}] = api.Block{Txs: []api.Tx{x, {}}}
	s.store.Apply(api.Apply{Height: 7, Block: api.Hash{6}})
	id, _ := tx.Id(y)
	encoded, _ := tx.Encode(y)
	ask(t, s, api.Request{Kind: api.AskTx, Hash: id}, api.OK, hash, int32(5), int32(1), encoded)
	ask(t, s, api.Request{Kind: api.AskBlock, Hash: hash}, api.OK, int32(5), sample.Bytes(twice))
	old, _ := tx.Id(l[0].Txs[0])
	encoded, _ = tx.Encode(l[0].Txs[0])
	ask(t, s, api.Request{Kind: api.AskTx, Hash: old}, api.OK, sample.Hash(l[0]), int32(0), int32(0), encoded)
	side := api.Block{Header: api.Header{Nonce: 99}, Txs: []api.Tx{sample.Coinbase(55, sample.Out(1, nil))}}
	s.blocks[sample.Hash(side)] = side
	id, _ = tx.Id(side.Txs[0])
	ask(t, s, api.Request{Kind: api.AskTx, Hash: id}, api.ErrUnknown)
}

// P29.2
func TestErrors(t *testing.T) {
	s, _ := world(t)
	var none *chain.Chain
	for _, r := range []api.Request{{}, {Kind: api.AskTip}, {Kind: api.AskCheck}, {Kind: api.AskInfo}} {
		ask(t, nil, r, api.ErrNil)
		ask(t, none, r, api.ErrNil)
		ask(t, &source{}, r, api.ErrNil)
		ask(t, &source{store: &store.Store{}}, r, api.ErrNil)
	}
	ask(t, s, api.Request{Kind: api.AskCheck}, api.ErrArg)
	ask(t, s, api.Request{Kind: api.AskSubmit, Block: []byte{1}}, api.ErrArg)
	ask(t, s, api.Request{Kind: api.AskCheck, Height: 1}, api.ErrParse)
	ask(t, s, api.Request{Kind: api.AskAt, Height: 99}, api.ErrHeight)
	empty := &source{store: store.New()}
	ask(t, empty, api.Request{Kind: api.AskTip}, api.ErrUnknown)
	ask(t, empty, api.Request{Kind: api.AskTx}, api.ErrUnknown)
	ask(t, empty, api.Request{Kind: api.AskBlock}, api.ErrUnknown)
	for _, kind := range []int{api.AskCoin, api.AskInfo, api.AskBalance, api.AskRich, api.AskTrace, api.AskAt} {
		ask(t, empty, api.Request{Kind: kind}, api.ErrHeight)
	}
}

// P29.2: a chain is a source
func TestChain(t *testing.T) {
	c, e := chain.New(sample.Params())
	if e != api.OK {
		t.Fatal(e)
	}
	hash := c.Tip()
	b, _ := c.Block(hash)
	ask(t, c, api.Request{Kind: api.AskTip}, api.OK, int32(0), hash)
	ask(t, c, api.Request{Kind: api.AskAt}, api.OK, hash, sample.Bytes(b))
	ask(t, c, api.Request{Kind: api.AskInfo}, api.OK, int32(0), hash, int32(0), int64(0), int64(50), int64(0))
}

// P29.3
func TestNothingIsShared(t *testing.T) {
	r := api.Request{Kind: api.AskSubmit, Block: []byte("abc")}
	b, _ := explorer.Encode(r)
	r.Block[0] = 'x'
	got, _ := explorer.Decode(b)
	b[1] = 'y'
	if string(got.Block) != "abc" {
		t.Error("an argument is kept")
	}
	s, l := world(t)
	answer, _ := explorer.Answer(s, api.Request{Kind: api.AskAt})
	clear(answer)
	ask(t, s, api.Request{Kind: api.AskAt}, api.OK, sample.Hash(l[0]), sample.Bytes(l[0]))
}
