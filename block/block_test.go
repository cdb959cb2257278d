package block_test

import (
	"bytes"
	"encoding/hex"
	"math/rand"
	"slices"
	"strings"
	"testing"

	"purser/api"
	"purser/block"
	"purser/octet"
	"purser/sha"
	"purser/tx"
)

// published is Bitcoin's first header.
func published(t *testing.T) api.Header {
	t.Helper()
	root, err := hex.DecodeString("3ba3edfd7a7b12b27ac72c3e67768f617fc81bc3888a51323a9fb8aa4b1e5e4a")
	if err != nil {
		t.Fatal(err)
	}
	return api.Header{Version: 1, Root: api.Hash(root), Time: 1231006505, Bits: 0x1D00FFFF, Nonce: 2083236893}
}

func header() api.Header {
	return api.Header{
		Version: 0x04030201, Prev: api.Hash{1, 31: 2}, Root: api.Hash{3, 31: 4},
		Time: 0x14131211, Bits: 0x24232221, Nonce: 0x34333231,
	}
}

func transaction(seed int) api.Tx {
	return api.Tx{
		Version: uint32(seed),
		In:      []api.In{{Prev: api.Outpoint{Tx: api.Hash{byte(seed)}, N: 1}, Script: bytes.Repeat([]byte{7}, seed), Seq: 2}},
		Out:     []api.Out{{Value: int64(seed), Script: []byte{byte(seed)}}, {Value: 9, Script: nil}},
	}
}

func blockOf(n int) api.Block {
	b := api.Block{Header: header()}
	for i := range n {
		b.Txs = append(b.Txs, transaction(i))
	}
	return b
}

// P7.1
func TestHeader(t *testing.T) {
	want := "01020304" + "01" + strings.Repeat("00", 30) + "02" + "03" + strings.Repeat("00", 30) + "04" + "11121314" + "21222324" + "31323334"
	b := block.EncodeHeader(header())
	if got := hex.EncodeToString(b); got != want {
		t.Error(got)
	}
	if h, e := block.DecodeHeader(b); h != header() || e != api.OK {
		t.Error(h, e)
	}
	if len(block.EncodeHeader(api.Header{})) != 80 {
		t.Error("a header has 80 bytes")
	}
	for _, n := range []int{0, 1, 79, 81, 160} {
		if h, e := block.DecodeHeader(make([]byte, n)); h != (api.Header{}) || e != api.ErrBlock {
			t.Error(n, h, e)
		}
	}
	r := rand.New(rand.NewSource(1))
	for range 100 {
		b := make([]byte, 80)
		r.Read(b)
		h, e := block.DecodeHeader(b)
		if e != api.OK || !bytes.Equal(block.EncodeHeader(h), b) || block.Hash(h) != sha.Twice(b) {
			t.Error("not there and back", b)
		}
	}
}

// P7.1, P7.3
func TestPublishedHash(t *testing.T) {
	const want = "000000000019d6689c085ae165831e934ff763ae46a2a6c172b3f1b60a8ce26f"
	hash := block.Hash(published(t))
	if got := block.Show(hash); got != want {
		t.Error(got)
	}
	if got, e := block.Read(want); got != hash || e != api.OK {
		t.Error(got, e)
	}
	if root := block.Show(published(t).Root); root != "4a5e1e4baab89f3a32518a88c31bc87f618f76673e2cc77ab2127b7afdeda33b" {
		t.Error(root)
	}
}

// P7.5
func TestHeaderBits(t *testing.T) {
	want := block.EncodeHeader(header())
	for i := range 80 * 8 {
		b := slices.Clone(want)
		b[i/8] ^= 1 << (i % 8)
		h, _ := block.DecodeHeader(b)
		if bytes.Equal(block.EncodeHeader(h), want) || h == header() || block.Hash(h) == block.Hash(header()) {
			t.Error("bit", i)
		}
	}
}

// P7.2
func TestEncode(t *testing.T) {
	empty, e := block.Encode(blockOf(0))
	if e != api.OK || len(empty) != 81 || empty[80] != 0 || !bytes.Equal(empty[:80], block.EncodeHeader(header())) {
		t.Errorf("%x %d", empty, e)
	}
	for _, n := range []int{1, 2, 252, 253, 300} {
		var pen octet.Pen
		pen.Raw(block.EncodeHeader(header()))
		pen.Size(uint64(n))
		for i := range n {
			b, _ := tx.Encode(transaction(i))
			pen.Raw(b)
		}
		if b, e := block.Encode(blockOf(n)); e != api.OK || !bytes.Equal(b, pen.All()) {
			t.Error(n, e)
		}
	}
	for place := range 3 {
		b := blockOf(3)
		b.Txs[place].In = nil
		if got, e := block.Encode(b); got != nil || e != api.ErrBlock {
			t.Error("Encode", place, got, e)
		}
		if got, e := block.Ids(b); got != nil || e != api.ErrBlock {
			t.Error("Ids", place, got, e)
		}
	}
}

// P7.2
func TestIds(t *testing.T) {
	ids, e := block.Ids(blockOf(3))
	if e != api.OK || len(ids) != 3 {
		t.Fatal(ids, e)
	}
	for i, id := range ids {
		if want, _ := tx.Id(transaction(i)); id != want {
			t.Error(i, id)
		}
	}
	if ids, e := block.Ids(blockOf(0)); len(ids) != 0 || e != api.OK {
		t.Error(ids, e)
	}
}

// P7.2, P7.5
func TestThereAndBack(t *testing.T) {
	r := rand.New(rand.NewSource(2))
	for _, n := range []int{0, 1, 2, 7, 252, 253, 254} {
		want := blockOf(n)
		b, _ := block.Encode(want)
		got, e := block.Decode(b)
		if e != api.OK || !block.Same(got, want) {
			t.Fatal(n, e)
		}
		for range 30 {
			cut := r.Intn(len(b))
			if got, e := block.Decode(b[:cut]); e != api.ErrBlock || !block.Same(got, api.Block{}) {
				t.Error("less:", cut, e)
			}
		}
		another, _ := tx.Encode(transaction(4))
		for _, more := range [][]byte{{0}, make([]byte, 100), another} {
			if got, e := block.Decode(append(slices.Clone(b), more...)); e != api.ErrBlock || !block.Same(got, api.Block{}) {
				t.Error("more:", len(more), e)
			}
		}
	}
	b, _ := block.Encode(blockOf(3))
	for range 3000 {
		damaged := slices.Clone(b)
		damaged[r.Intn(len(b))] ^= byte(1 + r.Intn(255))
		if got, e := block.Decode(damaged); e == api.OK {
			if again, _ := block.Encode(got); !bytes.Equal(again, damaged) {
				t.Errorf("%x", damaged)
			}
		}
	}
}

// P7.2
func TestWrongBytes(t *testing.T) {
	b, _ := block.Encode(blockOf(1))
	for name, wrong := range map[string][]byte{
		"none":           nil,
		"79 bytes":       b[:79],
		"80 bytes":       b[:80],
		"number alone":   b[:81],
		"long number":    slices.Concat(b[:80], []byte{0xFD, 1, 0}, b[81:]),
		"more counted":   slices.Concat(b[:80], []byte{2}, b[81:]),
		"none counted":   slices.Concat(b[:80], []byte{0}, b[81:]),
		"a huge number":  slices.Concat(b[:80], []byte{0xFF, 255, 255, 255, 255, 255, 255, 255, 255}, b[81:]),
		"no transaction": slices.Concat(b[:80], []byte{1, 0, 0, 0, 0}),
		"not valid":      slices.Concat(b[:81], []byte{1, 0, 0, 0, 0, 0, 0, 0, 0, 0}),
	} {
		if got, e := block.Decode(wrong); e != api.ErrBlock || !block.Same(got, api.Block{}) {
			t.Error(name, e)
		}
	}
}

// P7.3
func TestShowAndRead(t *testing.T) {
	hash := api.Hash{0xAB, 0x01, 30: 0x9F, 31: 0xCD}
	shown := "cd9f" + strings.Repeat("00", 28) + "01ab"
	if got := block.Show(hash); got != shown {
		t.Error(got)
	}
	if got, e := block.Read(shown); got != hash || e != api.OK {
		t.Error(got, e)
	}
	zeros := strings.Repeat("0", 63)
	for _, s := range []string{"", "x", zeros, zeros + "00", zeros + "A", zeros + "g", zeros + "/", zeros + ":", zeros + "`", "G" + zeros, " " + zeros, strings.ToUpper(shown), strings.Repeat("é", 32)} {
		if got, e := block.Read(s); got != (api.Hash{}) || e != api.ErrBlock {
			t.Errorf("Read(%q): %v, %d", s, got, e)
		}
	}
}

// changes alter one thing each.
var changes = map[string]func(b *api.Block){
	"version": func(b *api.Block) { b.Header.Version++ },
	"prev":    func(b *api.Block) { b.Header.Prev[9]++ },
	"root":    func(b *api.Block) { b.Header.Root[31]++ },
	"time":    func(b *api.Block) { b.Header.Time++ },
	"bits":    func(b *api.Block) { b.Header.Bits++ },
	"nonce":   func(b *api.Block) { b.Header.Nonce++ },
	"fewer":   func(b *api.Block) { b.Txs = b.Txs[:2] },
	"order":   func(b *api.Block) { b.Txs[0], b.Txs[1] = b.Txs[1], b.Txs[0] },
	"lock":    func(b *api.Block) { b.Txs[2].Lock++ },
	"in":      func(b *api.Block) { b.Txs[1].In[0].Seq++ },
	"script":  func(b *api.Block) { b.Txs[2].In[0].Script[0]++ },
	"out":     func(b *api.Block) { b.Txs[2].Out[1].Value++ },
	"lock's":  func(b *api.Block) { b.Txs[2].Out[0].Script[0]++ },
}

// P7.3, P7.4
func TestSameAndCopy(t *testing.T) {
	if !block.Same(api.Block{}, api.Block{Txs: []api.Tx{}}) || !block.Same(blockOf(3), blockOf(3)) {
		t.Error("equal ones are not the same")
	}
	for name, change := range changes {
		b := blockOf(3)
		c := block.Copy(b)
		if !block.Same(b, c) {
			t.Error("a copy is another one")
		}
		if change(&b); block.Same(b, blockOf(3)) || block.Same(blockOf(3), b) {
			t.Error("the same, with another", name)
		}
		if !block.Same(c, blockOf(3)) {
			t.Error("a copy shares its", name)
		}
	}
}

// P7.4
func TestNothingIsShared(t *testing.T) {
	b, _ := block.Encode(blockOf(3))
	kept := slices.Clone(b)
	got, _ := block.Decode(b)
	clear(b)
	if !block.Same(got, blockOf(3)) {
		t.Error("Decode keeps its argument")
	}
	got.Txs[0].Out[0].Script[0] = 99
	if again, _ := block.Decode(kept); !block.Same(again, blockOf(3)) {
		t.Error("Decode gives memory twice")
	}
	first := block.EncodeHeader(header())
	first[0] = 99
	if block.EncodeHeader(header())[0] != 1 {
		t.Error("EncodeHeader gives memory twice")
	}
}
