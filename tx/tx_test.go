package tx_test

import (
	"bytes"
	"encoding/hex"
	"math"
	"math/rand"
	"slices"
	"strings"
	"testing"

	"purser/api"
	"purser/sha"
	"purser/tx"
)

// example is the transaction of the chapter's example.
func example() api.Tx {
	return api.Tx{
		Version: 1,
		In:      []api.In{{Prev: api.Outpoint{N: 0xFFFFFFFF}, Script: []byte{0x2A}, Seq: 7}},
		Out:     []api.Out{{Value: 5, Script: []byte{0x6A}}},
	}
}

const exampleHex = "01000000" + "01" + "0000000000000000000000000000000000000000000000000000000000000000" + "ffffffff" + "012a" + "07000000" +
	"01" + "0500000000000000" + "016a" + "00000000"

// sized returns a transaction with so many inputs and outputs, and scripts of so many bytes.
func sized(ins, outs, script int) api.Tx {
	t := api.Tx{Version: 9, Lock: 8}
	for i := range ins {
		t.In = append(t.In, api.In{Prev: api.Outpoint{Tx: api.Hash{byte(i), 3}, N: uint32(i)}, Script: bytes.Repeat([]byte{byte(i)}, script), Seq: uint32(i)})
	}
	for i := range outs {
		t.Out = append(t.Out, api.Out{Value: int64(i), Script: bytes.Repeat([]byte{byte(i)}, script)})
	}
	return t
}

func random(r *rand.Rand) api.Tx {
	t := sized(1+r.Intn(4), 1+r.Intn(4), 0)
	t.Version, t.Lock = r.Uint32(), r.Uint32()
	for i := range t.In {
		r.Read(t.In[i].Prev.Tx[:])
		t.In[i].Prev.N, t.In[i].Seq = r.Uint32(), r.Uint32()
		t.In[i].Script = make([]byte, r.Intn(300))
		r.Read(t.In[i].Script)
	}
	for i := range t.Out {
		t.Out[i].Value = int64(r.Uint64())
		t.Out[i].Script = make([]byte, r.Intn(300))
		r.Read(t.Out[i].Script)
	}
	return t
}

// longScript returns a transaction of which one script, in the input or the output n, has 2001 bytes.
func longScript(in bool, n int) api.Tx {
	t := sized(3, 3, 5)
	if in {
		t.In[n].Script = make([]byte, 2001)
	} else {
		t.Out[n].Script = make([]byte, 2001)
	}
	return t
}

// P6.1
func TestCheck(t *testing.T) {
	for name, c := range map[string]struct {
		x api.Tx
		e api.Errno
	}{
		"example":       {example(), api.OK},
		"zero":          {api.Tx{}, api.ErrTx},
		"no inputs":     {sized(0, 1, 1), api.ErrTx},
		"no outputs":    {sized(1, 0, 1), api.ErrTx},
		"least":         {sized(1, 1, 0), api.OK},
		"most":          {sized(50, 50, 2000), api.OK},
		"51 inputs":     {sized(51, 1, 1), api.ErrTx},
		"51 outputs":    {sized(1, 51, 1), api.ErrTx},
		"first input":   {longScript(true, 0), api.ErrTx},
		"last input":    {longScript(true, 2), api.ErrTx},
		"first output":  {longScript(false, 0), api.ErrTx},
		"last output":   {longScript(false, 2), api.ErrTx},
		"any value":     {api.Tx{In: make([]api.In, 1), Out: []api.Out{{Value: math.MinInt64}}}, api.OK},
		"doubled input": {api.Tx{In: make([]api.In, 2), Out: make([]api.Out, 1)}, api.OK},
	} {
		if e := tx.Check(c.x); e != c.e {
			t.Error(name, "Check", e)
		}
		b, e := tx.Encode(c.x)
		if e != c.e || (b == nil) != (e != api.OK) {
			t.Error(name, "Encode", e, len(b))
		}
		id, e := tx.Id(c.x)
		if e != c.e || e != api.OK && id != (api.Hash{}) || e == api.OK && id != sha.Twice(b) {
			t.Error(name, "Id", e, id)
		}
	}
}

// P6.1
func TestEncode(t *testing.T) {
	b, e := tx.Encode(example())
	if got := hex.EncodeToString(b); got != exampleHex || e != api.OK {
		t.Error(got, e)
	}
	x := api.Tx{
		Version: 0x04030201,
		In: []api.In{
			{Prev: api.Outpoint{Tx: api.Hash{1, 31: 2}, N: 0x0A0B0C0D}, Script: nil, Seq: 0xFFFFFFFE},
			{Prev: api.Outpoint{Tx: api.Hash{3}, N: 1}, Script: bytes.Repeat([]byte{0xEE}, 253), Seq: 1},
		},
		Out:  []api.Out{{Value: -1, Script: nil}, {Value: 0x0102030405060708, Script: []byte{1, 2}}},
		Lock: 0x0D0C0B0A,
	}
	want := "01020304" + "02" +
		"01" + strings.Repeat("00", 30) + "02" + "0d0c0b0a" + "00" + "feffffff" +
		"03" + strings.Repeat("00", 31) + "01000000" + "fdfd00" + strings.Repeat("ee", 253) + "01000000" +
		"02" + "ffffffffffffffff" + "00" + "0807060504030201" + "020102" + "0a0b0c0d"
	b, e = tx.Encode(x)
	if got := hex.EncodeToString(b); got != want || e != api.OK {
		t.Error(got, e)
	}
}

// P6.1: the txid of the coinbase of Bitcoin's first block is published
func TestPublishedId(t *testing.T) {
	key, _ := hex.DecodeString("4104678afdb0fe5548271967f1a67130b7105cd6a828e03909a67962e0ea1f61deb649f6bc3f4cef38c4f35504e51ec112de5c384df7ba0b8d578a4c702b6bf11d5fac")
	text := "\x04\xff\xff\x00\x1d\x01\x04\x45The Times 03/Jan/2009 Chancellor on brink of second bailout for banks"
	x := api.Tx{
		Version: 1,
		In:      []api.In{{Prev: api.Outpoint{N: 0xFFFFFFFF}, Script: []byte(text), Seq: 0xFFFFFFFF}},
		Out:     []api.Out{{Value: 5000000000, Script: key}},
	}
	id, e := tx.Id(x)
	if got := hex.EncodeToString(id[:]); got != "3ba3edfd7a7b12b27ac72c3e67768f617fc81bc3888a51323a9fb8aa4b1e5e4a" || e != api.OK {
		t.Error(got, e)
	}
}

// P6.2, P6.5
func TestThereAndBack(t *testing.T) {
	r := rand.New(rand.NewSource(1))
	l := []api.Tx{example(), sized(50, 50, 2000), sized(50, 1, 0), sized(1, 50, 100), sized(2, 2, 252), sized(2, 2, 253)}
	for range 200 {
		l = append(l, random(r))
	}
	for _, x := range l {
		b, _ := tx.Encode(x)
		got, e := tx.Decode(b)
		if e != api.OK || !tx.Same(got, x) {
			t.Fatal("Decode", e, x)
		}
		if again, e := tx.Encode(got); e != api.OK || !bytes.Equal(again, b) {
			t.Error("Encode of Decode", e)
		}
		more := append(slices.Clone(b), make([]byte, r.Intn(3000)+1)...)
		if got, n, e := tx.First(more); e != api.OK || n != len(b) || !tx.Same(got, x) {
			t.Error("First", n, e)
		}
		if got, e := tx.Decode(more); e != api.ErrTx || !tx.Same(got, api.Tx{}) {
			t.Error("Decode of more", e)
		}
		for range 20 {
			cut := r.Intn(len(b))
			if got, n, e := tx.First(b[:cut]); e != api.ErrTx || n != 0 || !tx.Same(got, api.Tx{}) {
				t.Error("First of less", cut, n, e)
			}
			if got, e := tx.Decode(b[:cut]); e != api.ErrTx || !tx.Same(got, api.Tx{}) {
				t.Error("Decode of less", cut, e)
			}
		}
	}
}

// P6.2: neither other forms of sizes nor transactions that are not valid
func TestWrongBytes(t *testing.T) {
	ins := "01" + strings.Repeat("00", 32) + "ffffffff" + "012a" + "07000000"
	outs := "01" + "0500000000000000" + "016a"
	long := strings.Repeat("00", 2001)
	for _, s := range []string{
		"", "01000000",
		"01000000" + "00" + outs + "00000000",
		"01000000" + ins + "00" + "00000000",
		"01000000" + "fd0100" + ins[2:] + outs + "00000000",
		"01000000" + ins + "fd0100" + outs[2:] + "00000000",
		"01000000" + "33" + strings.Repeat(ins[2:], 51) + outs + "00000000",
		"01000000" + ins + "33" + strings.Repeat(outs[2:], 51) + "00000000",
		"01000000" + "01" + ins[2:74] + "fdd107" + long + "07000000" + outs + "00000000",
		"01000000" + ins + "01" + "0500000000000000" + "fdd107" + long + "00000000",
		"01000000" + "01" + ins[2:74] + "fd01002a" + "07000000" + outs + "00000000",
		"01000000" + "ffffffffffffffffff" + ins[2:] + outs + "00000000",
	} {
		b, err := hex.DecodeString(s)
		if err != nil {
			t.Fatal(err)
		}
		if got, e := tx.Decode(b); e != api.ErrTx || !tx.Same(got, api.Tx{}) {
			t.Errorf("Decode(%.90s): %d", s, e)
		}
	}
	for _, s := range []string{
		"01000000" + ins + outs + "00000000",
		"01000000" + "32" + strings.Repeat(ins[2:], 50) + outs + "00000000",
		"01000000" + ins + "32" + strings.Repeat(outs[2:], 50) + "00000000",
		"01000000" + "01" + ins[2:74] + "fdd007" + long[2:] + "07000000" + outs + "00000000",
	} {
		b, _ := hex.DecodeString(s)
		if _, e := tx.Decode(b); e != api.OK {
			t.Errorf("Decode(%.90s): %d", s, e)
		}
	}
}

// P6.2, P6.5: what decodes encodes to the same bytes
func TestDamage(t *testing.T) {
	r := rand.New(rand.NewSource(2))
	for range 3000 {
		b, _ := tx.Encode(random(r))
		b[r.Intn(len(b))] ^= byte(1 + r.Intn(255))
		if x, e := tx.Decode(b); e == api.OK {
			if again, _ := tx.Encode(x); !bytes.Equal(b, again) {
				t.Errorf("%x", b)
			}
		}
	}
}

// P6.3
func TestCoinbase(t *testing.T) {
	if !tx.Coinbase(example()) {
		t.Error("the example is one")
	}
	for name, change := range map[string]func(x *api.Tx){
		"number 0":    func(x *api.Tx) { x.In[0].Prev.N = 0 },
		"number less": func(x *api.Tx) { x.In[0].Prev.N-- },
		"txid":        func(x *api.Tx) { x.In[0].Prev.Tx[31] = 1 },
		"no inputs":   func(x *api.Tx) { x.In = nil },
		"two inputs":  func(x *api.Tx) { x.In = append(x.In, x.In[0]) },
	} {
		x := example()
		if change(&x); tx.Coinbase(x) {
			t.Error(name)
		}
	}
	if !tx.Coinbase(api.Tx{In: []api.In{{Prev: api.Outpoint{N: 0xFFFFFFFF}}}}) || tx.Coinbase(api.Tx{}) {
		t.Error("only the input counts")
	}
}

// changes alter one field each.
var changes = map[string]func(x *api.Tx){
	"version":    func(x *api.Tx) { x.Version++ },
	"lock":       func(x *api.Tx) { x.Lock++ },
	"txid":       func(x *api.Tx) { x.In[1].Prev.Tx[30]++ },
	"number":     func(x *api.Tx) { x.In[1].Prev.N++ },
	"in script":  func(x *api.Tx) { x.In[0].Script[3]++ },
	"in length":  func(x *api.Tx) { x.In[1].Script = x.In[1].Script[:4] },
	"seq":        func(x *api.Tx) { x.In[0].Seq++ },
	"value":      func(x *api.Tx) { x.Out[1].Value-- },
	"out script": func(x *api.Tx) { x.Out[1].Script[0]++ },
	"out length": func(x *api.Tx) { x.Out[0].Script = nil },
	"fewer ins":  func(x *api.Tx) { x.In = x.In[:1] },
	"fewer outs": func(x *api.Tx) { x.Out = x.Out[:1] },
}

// P6.3, P6.5
func TestSame(t *testing.T) {
	if !tx.Same(sized(2, 2, 5), sized(2, 2, 5)) || !tx.Same(api.Tx{}, api.Tx{In: []api.In{}, Out: []api.Out{}}) {
		t.Error("equal ones are not the same")
	}
	empty, none := sized(2, 2, 0), sized(2, 2, 0)
	none.In[0].Script, none.Out[1].Script = nil, nil
	empty.In[0].Script, empty.Out[1].Script = []byte{}, []byte{}
	if !tx.Same(empty, none) {
		t.Error("a nil script is an empty one")
	}
	want, _ := tx.Encode(sized(2, 2, 5))
	for name, change := range changes {
		x := sized(2, 2, 5)
		if change(&x); tx.Same(x, sized(2, 2, 5)) || tx.Same(sized(2, 2, 5), x) {
			t.Error("the same, with another", name)
		}
		if b, e := tx.Encode(x); e != api.OK || bytes.Equal(b, want) {
			t.Error("the same bytes, with another", name)
		}
	}
}

// P6.3, P6.4
func TestCopy(t *testing.T) {
	for name, change := range changes {
		x := sized(2, 2, 5)
		c := tx.Copy(x)
		if !tx.Same(x, c) {
			t.Error("a copy is another one")
		}
		if change(&x); !tx.Same(c, sized(2, 2, 5)) {
			t.Error("a copy shares its", name)
		}
	}
	if !tx.Same(tx.Copy(api.Tx{}), api.Tx{}) {
		t.Error("a copy of nothing")
	}
}

// P6.3
func TestCompare(t *testing.T) {
	l := []api.Outpoint{
		{}, {N: 1}, {N: 256}, {N: 0xFFFFFFFF},
		{Tx: api.Hash{31: 1}}, {Tx: api.Hash{31: 1}, N: 7}, {Tx: api.Hash{31: 0xFF}}, {Tx: api.Hash{1}}, {Tx: api.Hash{1, 31: 1}}, {Tx: api.Hash{0x80}},
	}
	for i, a := range l {
		for j, b := range l {
			want := 0
			if i < j {
				want = -1
			} else if i > j {
				want = 1
			}
			if got := tx.Compare(a, b); got != want {
				t.Error(a, b, got)
			}
		}
	}
}

// P6.4
func TestNothingIsShared(t *testing.T) {
	b, _ := tx.Encode(sized(2, 2, 5))
	kept := slices.Clone(b)
	x, _ := tx.Decode(b)
	clear(b)
	if !tx.Same(x, sized(2, 2, 5)) {
		t.Error("Decode keeps its argument")
	}
	x.In[0].Script = append(x.In[0].Script, 1, 2, 3, 4, 5, 6, 7, 8)
	x.Out[0].Script[0] = 99
	if again, _ := tx.Decode(kept); !tx.Same(again, sized(2, 2, 5)) {
		t.Error("Decode gives memory twice")
	}
}
