package rules

import (
	"bytes"
	"iter"

	"purser/api"
	"purser/ops"
	"purser/spend"
	"purser/store"
	"purser/tx"
)

// judgement is what was found out about the transactions of a block so far.
type judgement struct {
	params  api.Params
	view    view
	changes api.Apply
	fees    int64
}

// judge judges all transactions of a block that has form.
func judge(p api.Params, s *store.Store, b api.Block) (judgement, api.Errno) {
	j := judgement{params: p, view: view{overlay: newOverlay[api.Outpoint, api.Version](), store: s}}
	j.changes.Height = s.Tip() + 1
	e := api.OK
judging:
	for id, t := range transactions(b) {
		if e = j.next(id, t); e != api.OK {
			break judging
		}
	}
	return j, e
}

// transactions yields the transactions of a block with their txids.
func transactions(b api.Block) iter.Seq2[api.Hash, api.Tx] {
	return func(yield func(api.Hash, api.Tx) bool) {
		for _, t := range b.Txs {
			id, _ := tx.Id(t) // the block has form, and its transactions are valid
			if !yield(id, t) {
				return
			}
		}
	}
}

// next judges the next transaction, and lets it do to the view what it does.
func (j *judgement) next(id api.Hash, t api.Tx) api.Errno {
	if makesTwice(j.view, id, t) {
		return api.ErrTwice
	}
	base := tx.Coinbase(t)
	if !base {
		fee, e := j.fee(j.view, t)
		if e != api.OK {
			return e
		}
		j.fees += fee
		j.spend(id, t)
	}
	j.make(id, t, base)
	return api.OK
}

func makesTwice(c coins, id api.Hash, t api.Tx) bool {
	for n := range t.Out {
		if c.used(api.Outpoint{Tx: id, N: uint32(n)}) {
			return true
		}
	}
	return false
}

// fee judges what t spends, and returns its fee.
func (j *judgement) fee(c coins, t api.Tx) (int64, api.Errno) {
	fee := int64(0)
	var locks [][]byte
	for _, in := range t.In {
		v, ok := c.coin(in.Prev)
		if !ok {
			return 0, api.ErrMissing
		}
		if v.Base && j.changes.Height-v.Made < j.params.Maturity {
			return 0, api.ErrImmature
		}
		fee += v.Value
		locks = append(locks, v.Script)
	}
	if _, e := spend.All(t, locks); e != api.OK {
		return 0, api.ErrScript
	}
	fee -= paid(t)
	if fee < 0 {
		return 0, api.ErrSpends
	}
	return fee, api.OK
}

// spend takes what t spends from the view.
func (j *judgement) spend(id api.Hash, t api.Tx) {
	for _, in := range t.In {
		j.view.take(in.Prev)
		j.changes.Spends = append(j.changes.Spends, api.Spend{Point: in.Prev, Spender: id})
	}
}

// make adds what t makes to the view.
func (j *judgement) make(id api.Hash, t api.Tx, base bool) {
	for n, out := range t.Out {
		if ops.Burnt(out.Script) {
			j.changes.Burnt += out.Value
			continue
		}
		v := api.Version{
			Point: api.Outpoint{Tx: id, N: uint32(n)}, Made: j.changes.Height,
			Value: out.Value, Script: bytes.Clone(out.Script), Base: base,
		}
		j.view.add(v.Point, v)
		j.changes.Made = append(j.changes.Made, v)
	}
}

// paid returns the sum of the output values of t.
func paid(t api.Tx) int64 {
	sum := int64(0)
	for _, out := range t.Out {
		sum += out.Value
	}
	return sum
}
