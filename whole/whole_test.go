package whole_test

import (
	"bytes"
	"math"
	"math/rand"
	"slices"
	"testing"

	"purser/api"
	"purser/block"
	"purser/merkle"
	"purser/whole"
)

const none = math.MaxUint32

func coinbase(text string) api.Tx {
	return api.Tx{In: []api.In{{Prev: api.Outpoint{N: none}, Script: []byte(text)}}, Out: []api.Out{{Value: 50, Script: []byte{1}}}}
}

// transaction spends outpoints with these numbers.
func transaction(seed int, points ...int) api.Tx {
	t := api.Tx{Version: uint32(seed), Out: []api.Out{{Value: int64(seed)}}}
	for _, n := range points {
		t.In = append(t.In, api.In{Prev: api.Outpoint{Tx: api.Hash{1, byte(n)}, N: uint32(n)}})
	}
	return t
}

// rooted gives a block of transactions the root that it needs.
func rooted(t *testing.T, l ...api.Tx) api.Block {
	t.Helper()
	b := api.Block{Txs: l}
	ids, e := block.Ids(b)
	if e != api.OK {
		t.Fatal(e)
	}
	b.Header.Root, _ = merkle.Root(ids)
	return b
}

func good(t *testing.T) api.Block {
	t.Helper()
	return rooted(t, coinbase("ab"), transaction(1, 1, 2), transaction(2, 3))
}

func expect(t *testing.T, name string, b api.Block, want ...api.Errno) {
	t.Helper()
	if got := whole.All(b); !slices.Equal(got, want) {
		t.Error(name, "All", got)
	}
	first := api.OK
	if len(want) > 0 {
		first = want[0]
	}
	if got := whole.Judge(b); got != first {
		t.Error(name, "Judge", got)
	}
}

// P24.1
func TestGoodOnes(t *testing.T) {
	expect(t, "good", good(t))
	expect(t, "coinbase alone", rooted(t, coinbase("ab")))
	expect(t, "a long text", rooted(t, coinbase(string(make([]byte, 100)))))
	many := []api.Tx{coinbase("ab")}
	for n := range 99 {
		many = append(many, transaction(n, n))
	}
	expect(t, "100 transactions", rooted(t, many...))
	for _, n := range []int{3, 5, 6, 7, 11} {
		expect(t, "an odd list", rooted(t, many[:n]...))
	}
}

// P24.1
func TestSize(t *testing.T) {
	many := []api.Tx{coinbase("ab")}
	for n := range 100 {
		many = append(many, transaction(n, n))
	}
	expect(t, "101 transactions", rooted(t, many...), api.ErrSize)
	invalid := good(t)
	invalid.Txs[1].Out = nil
	expect(t, "not valid", invalid, api.ErrSize)
	invalid.Txs[0] = invalid.Txs[2]
	expect(t, "not valid, and more", invalid, api.ErrSize)
	sized := func(size int) api.Block {
		l := []api.Tx{coinbase("ab")}
		for n := range 9 {
			x := transaction(n, n)
			x.Out[0].Script = make([]byte, 2000)
			l = append(l, x)
		}
		last := transaction(10, 10)
		last.Out[0].Script = make([]byte, 300)
		b := rooted(t, append(l, last)...)
		encoded, _ := block.Encode(b)
		b.Txs[10].Out[0].Script = make([]byte, 300+size-len(encoded))
		return rooted(t, b.Txs...)
	}
	for _, size := range []int{19999, 20000, 20001} {
		b := sized(size)
		if encoded, _ := block.Encode(b); len(encoded) != size {
			t.Fatal(len(encoded), size)
		}
		if size <= 20000 {
			expect(t, "great", b)
		} else {
			b.Header.Root[0]++
			expect(t, "too great", b, api.ErrSize)
		}
	}
}

// P24.1
func TestCoinbase(t *testing.T) {
	expect(t, "zero", api.Block{}, api.ErrCoinbase, api.ErrRoot)
	expect(t, "short text", rooted(t, coinbase("a")), api.ErrCoinbase)
	expect(t, "no text", rooted(t, coinbase("")), api.ErrCoinbase)
	expect(t, "longer text", rooted(t, coinbase(string(make([]byte, 101)))), api.ErrCoinbase)
	expect(t, "none", rooted(t, transaction(1, 1)), api.ErrCoinbase)
	expect(t, "not ahead", rooted(t, transaction(1, 1), coinbase("ab")), api.ErrCoinbase, api.ErrForm)
	expect(t, "two", rooted(t, coinbase("ab"), transaction(1, 1), coinbase("cd")), api.ErrCoinbase, api.ErrForm)
	almost := coinbase("ab")
	almost.In[0].Prev.N--
	expect(t, "almost", rooted(t, almost), api.ErrCoinbase)
	almost = coinbase("ab")
	almost.In = append(almost.In, transaction(1, 1).In[0])
	expect(t, "two inputs", rooted(t, almost), api.ErrCoinbase)
}

// P24.1
func TestRoot(t *testing.T) {
	b := good(t)
	b.Header.Root[31] ^= 1
	expect(t, "another root", b, api.ErrRoot)
	b = good(t)
	b.Txs[1], b.Txs[2] = b.Txs[2], b.Txs[1]
	expect(t, "another order", b, api.ErrRoot)
	b = good(t)
	b.Txs = append(b.Txs, b.Txs[2])
	expect(t, "swollen", b, api.ErrRoot, api.ErrAgain)
	one := rooted(t, coinbase("ab"))
	one.Header.Root = api.Hash{}
	expect(t, "no root", one, api.ErrRoot)
}

// P24.1
func TestForm(t *testing.T) {
	x := transaction(1, 1, 2)
	x.In[1].Prev = api.Outpoint{N: none}
	expect(t, "spends nothing", rooted(t, coinbase("ab"), x), api.ErrForm)
	x.In[1].Prev = api.Outpoint{N: none - 1}
	expect(t, "another number", rooted(t, coinbase("ab"), x))
	x.In[1].Prev = api.Outpoint{Tx: api.Hash{31: 1}, N: none}
	expect(t, "another txid", rooted(t, coinbase("ab"), x))
	x = transaction(1, 1, 2)
	x.In[0].Prev, x.In[1].Prev = api.Outpoint{N: none}, api.Outpoint{N: none}
	expect(t, "twice", rooted(t, coinbase("ab"), x), api.ErrForm, api.ErrAgain)
}

// P24.1
func TestValue(t *testing.T) {
	for name, c := range map[string]struct {
		values []int64
		bad    bool
	}{
		"none": {[]int64{0}, false}, "-1": {[]int64{-1}, true}, "least": {[]int64{math.MinInt64}, true}, "most": {[]int64{api.MaxMoney}, false},
		"more": {[]int64{api.MaxMoney + 1}, true}, "greatest": {[]int64{math.MaxInt64}, true}, "sum": {[]int64{api.MaxMoney - 1, 1}, false},
		"greater sum": {[]int64{api.MaxMoney, 1}, true}, "wrapped": {[]int64{math.MaxInt64, math.MaxInt64, 2}, true}, "minus and plus": {[]int64{5, -1}, true},
		"50 of them": {slices.Repeat([]int64{api.MaxMoney}, 50), true},
	} {
		var out []api.Out
		for _, n := range c.values {
			out = append(out, api.Out{Value: n})
		}
		var want []api.Errno
		if c.bad {
			want = append(want, api.ErrValue)
		}
		first, second := coinbase("ab"), transaction(1, 1)
		first.Out = out
		expect(t, name+" in the coinbase", rooted(t, first), want...)
		second.Out = out
		expect(t, name, rooted(t, coinbase("ab"), second, transaction(2, 2)), want...)
	}
	full := transaction(1, 1)
	full.Out[0].Value = api.MaxMoney
	more := transaction(2, 2)
	more.Out[0].Value = api.MaxMoney
	expect(t, "of two transactions", rooted(t, coinbase("ab"), full, more))
}

// P24.1
func TestAgain(t *testing.T) {
	expect(t, "in one", rooted(t, coinbase("ab"), transaction(1, 1, 1)), api.ErrAgain)
	expect(t, "in two", rooted(t, coinbase("ab"), transaction(1, 1, 2), transaction(2, 3, 1)), api.ErrAgain)
	other := transaction(1, 1, 1)
	other.In[1].Prev.N++
	expect(t, "another number", rooted(t, coinbase("ab"), other))
}

// P24.1: all of them, in order
func TestAll(t *testing.T) {
	x := transaction(1, 1, 1)
	x.In = append(x.In, api.In{Prev: api.Outpoint{N: none}})
	x.Out[0].Value = -1
	b := api.Block{Txs: []api.Tx{coinbase("a"), x}}
	expect(t, "all", b, api.ErrCoinbase, api.ErrRoot, api.ErrForm, api.ErrValue, api.ErrAgain)
}

// P24.2
func TestPoints(t *testing.T) {
	b := good(t)
	want := []api.Outpoint{b.Txs[1].In[0].Prev, b.Txs[1].In[1].Prev, b.Txs[2].In[0].Prev}
	if got := whole.Points(b); !slices.Equal(got, want) {
		t.Error(got)
	}
	if got := whole.Points(api.Block{}); len(got) != 0 {
		t.Error(got)
	}
	if got := whole.Points(rooted(t, coinbase("ab"))); len(got) != 0 {
		t.Error(got)
	}
	if got := whole.Points(api.Block{Txs: []api.Tx{{}, {}, transaction(1, 4, 4)}}); !slices.Equal(got, []api.Outpoint{{Tx: api.Hash{1, 4}, N: 4}, {Tx: api.Hash{1, 4}, N: 4}}) {
		t.Error(got)
	}
}

// P24.4
func TestConsequences(t *testing.T) {
	for i := range 3 {
		b := good(t)
		b.Txs = append(b.Txs, b.Txs[i])
		if whole.Judge(b) == api.OK {
			t.Error("a copy is appended, without a violation")
		}
		if len(whole.All(rooted(t, b.Txs...))) == 0 {
			t.Error("with its root")
		}
	}
	r := rand.New(rand.NewSource(1))
	for range 50 {
		b := good(t)
		b.Header.Time, b.Header.Bits, b.Header.Nonce, b.Header.Version = r.Uint32(), r.Uint32(), r.Uint32(), r.Uint32()
		r.Read(b.Header.Prev[:])
		expect(t, "another header", b)
		b.Txs[r.Intn(3)].Version = r.Uint32()
		b.Txs[r.Intn(3)].Lock = r.Uint32()
		b.Txs[r.Intn(3)].In[0].Seq = r.Uint32()
		expect(t, "other numbers", b, api.ErrRoot)
		expect(t, "other numbers, and their root", rooted(t, b.Txs...))
	}
}

// P24.3
func TestArgumentsStay(t *testing.T) {
	b := good(t)
	before, _ := block.Encode(b)
	whole.All(b)
	whole.Judge(b)
	whole.Points(b)[0].N = 99
	if after, _ := block.Encode(b); !bytes.Equal(before, after) {
		t.Error("an argument changed")
	}
}
