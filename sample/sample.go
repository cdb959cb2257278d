// Package sample makes parameters, transactions and blocks for the tests of the upper layers.
package sample

import (
	"purser/api"
	"purser/block"
	"purser/merkle"
	"purser/pow"
	"purser/target"
	"purser/tx"
)

// Easy is compact bits that every other hash satisfies.
const Easy = 0x207FFFFF

// Params returns parameters by which blocks are soon found, and keep their bits.
func Params() api.Params {
	return api.Params{
		Limit: Easy, Every: 2016, Span: 1 << 20, Subsidy: 50, Halving: 10,
		Maturity: 2, Depth: 5, Extra: 4, Time: 1000,
	}
}

// Yes returns a locking script that anybody opens.
func Yes() []byte { return []byte{api.OpOne} }

// No returns a locking script that nobody opens.
func No() []byte { return []byte{api.Op0} }

// Out returns an output.
func Out(value int64, script []byte) api.Out { return api.Out{Value: value, Script: script} }

// Coinbase returns a coinbase; those with other tags have other txids.
func Coinbase(tag int, l ...api.Out) api.Tx {
	return api.Tx{
		Version: 1,
		In:      []api.In{{Prev: api.Outpoint{N: 0xFFFFFFFF}, Script: []byte("text"), Seq: uint32(tag)}},
		Out:     l,
	}
}

// Pay returns a transaction that spends outpoints without scripts.
func Pay(points []api.Outpoint, l ...api.Out) api.Tx {
	t := api.Tx{Version: 1, Out: l}
	for _, p := range points {
		t.In = append(t.In, api.In{Prev: p})
	}
	return t
}

// Point returns the outpoint of output n of t.
func Point(t api.Tx, n int) api.Outpoint {
	id, _ := tx.Id(t)
	return api.Outpoint{Tx: id, N: uint32(n)}
}

// Hash returns the hash of b.
func Hash(b api.Block) api.Hash { return block.Hash(b.Header) }

// Bytes returns the bytes of b.
func Bytes(b api.Block) []byte {
	bytes, _ := block.Encode(b)
	return bytes
}

// Block returns a block with the root of its transactions, and with a nonce that satisfies its bits.
func Block(prev api.Hash, time, bits uint32, l ...api.Tx) api.Block {
	b := api.Block{Header: api.Header{Version: 1, Prev: prev, Time: time, Bits: bits}, Txs: l}
	ids, _ := block.Ids(b)
	b.Header.Root, _ = merkle.Root(ids)
	return Mined(b)
}

// Mined returns b with the next nonce that satisfies its bits, if they are those of a target.
func Mined(b api.Block) api.Block {
	t, e := target.Expand(b.Header.Bits)
	for e == api.OK && !target.Below(Hash(b), t) {
		b.Header.Nonce++
	}
	return b
}

// Genesis returns the genesis block of p.
func Genesis(p api.Params) api.Block {
	b, _ := pow.Genesis(p)
	return b
}

// Child returns a block behind parent, whose coinbase claims that much; those with other tags have other hashes.
func Child(parent api.Block, tag int, claim int64, l ...api.Tx) api.Block {
	base := Coinbase(tag, Out(claim, Yes()))
	return Block(Hash(parent), parent.Header.Time+100, Easy, append([]api.Tx{base}, l...)...)
}

// Forest returns n blocks of several branches behind the genesis block of p, some of which are wrong, and a few of which stand ahead of their parents. All choices are those of pick, which returns a number below n.
func Forest(p api.Params, n int, pick func(n int) int) []api.Block {
	l := []api.Block{Genesis(p)}
	for tag := range n {
		parent := l[len(l)-1]
		if pick(4) == 0 {
			parent = l[max(0, len(l)-1-pick(9))]
		}
		l = append(l, twig(parent, tag, l[pick(len(l))].Txs[0], pick))
	}
	l = l[1:]
	for i := range l {
		j := min(len(l)-1, i+pick(3))
		l[i], l[j] = l[j], l[i]
	}
	return l
}

// twig returns a block behind parent, which may spend a coinbase, or break a rule.
func twig(parent api.Block, tag int, from api.Tx, pick func(n int) int) api.Block {
	switch pick(12) {
	case 0:
		return Child(parent, tag, api.MaxMoney)
	case 1:
		return Child(parent, tag, 5, Pay([]api.Outpoint{{Tx: api.Hash{byte(tag)}}}, Out(0, nil)))
	case 2:
		b := Child(parent, tag, 5)
		b.Header.Time = 0
		return Mined(b)
	case 3, 4, 5, 6:
		scripts := [][]byte{Yes(), {api.OpReturn}, {api.OpOne + 1}}
		return Child(parent, tag, 5, Pay([]api.Outpoint{Point(from, 0)}, Out(int64(pick(6)), scripts[pick(3)])))
	}
	return Child(parent, tag, 5)
}
