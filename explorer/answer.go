package explorer

import (
	"iter"

	"purser/api"
	"purser/block"
	"purser/octet"
	"purser/store"
	"purser/tx"
)

const notActive = 0xFFFFFFFF // the height of a block that is not on the chain

// Source is what is asked: a store, and blocks by their hashes.
type Source interface {
	Store() *store.Store
	Block(h api.Hash) (api.Block, bool)
}

// answer is a request to a source, and what is written of the answer.
type answer struct {
	api.Request
	source Source
	store  *store.Store
	pen    octet.Pen
}

// Answer returns the bytes of the answer to r.
func Answer(s Source, r api.Request) ([]byte, api.Errno) {
	if s == nil {
		return nil, api.ErrNil
	}
	a := answer{Request: r, source: s, store: s.Store()}
	// No height is -1: only no store at all answers ErrNil here.
	if _, e := a.store.Block(-1); e == api.ErrNil {
		return nil, api.ErrNil
	}
	if e := Check(r); e != api.OK {
		return nil, e
	}
	write := a.writer()
	if write == nil {
		return nil, api.ErrArg
	}
	if e := write(); e != api.OK {
		return nil, e
	}
	return a.pen.All(), api.OK
}

// writer returns what writes the answer, or nil.
func (a *answer) writer() func() api.Errno {
	switch a.Kind {
	case api.AskCoin:
		return a.writeCoin
	case api.AskInfo:
		return a.writeInfo
	case api.AskBalance:
		return a.writeBalance
	case api.AskRich:
		return a.writeRich
	case api.AskTrace:
		return a.writeTrace
	case api.AskAt:
		return a.writeAt
	case api.AskBlock:
		return a.writeBlock
	case api.AskTx:
		return a.writeTx
	case api.AskTip:
		return a.writeTip
	}
	return nil
}

func (a *answer) height() int { return int(a.Height) }

func (a *answer) writeCoin() api.Errno {
	v, there, e := a.store.Coin(a.Point, a.height())
	if e != api.OK {
		return e
	}
	a.flag(there)
	if there {
		a.version(v)
	}
	return api.OK
}

func (a *answer) writeInfo() api.Errno {
	info, e := a.store.Info(a.height())
	a.number(4, info.Height)
	a.pen.Raw(info.Block[:])
	a.number(4, info.Coins)
	a.money(info.Total)
	a.money(info.Burnt)
	a.money(info.Left)
	return e
}

func (a *answer) writeBalance() api.Errno {
	balance, e := a.store.Balance(a.Script, a.height())
	a.money(balance)
	return e
}

func (a *answer) writeRich() api.Errno {
	l, e := a.store.Rich(int(a.K), a.height())
	a.pen.Size(uint64(len(l)))
	for _, r := range l {
		a.pen.Bytes(r.Script)
		a.money(r.Balance)
	}
	return e
}

func (a *answer) writeTrace() api.Errno {
	l, e := a.store.Trace(a.Point, a.height())
	a.pen.Size(uint64(len(l)))
	for _, v := range l {
		a.version(v)
		a.number(4, v.Spent)
		a.pen.Raw(v.Spender[:])
	}
	return e
}

func (a *answer) writeAt() api.Errno {
	hash, e := a.store.Block(a.height())
	if e != api.OK {
		return e
	}
	a.pen.Raw(hash[:])
	return a.block(hash)
}

func (a *answer) writeBlock() api.Errno {
	height := notActive
search:
	for at, hash := range a.downward() {
		if hash == a.Hash {
			height = at
			break search
		}
	}
	a.number(4, height)
	return a.block(a.Hash)
}

func (a *answer) writeTx() api.Errno {
	e := api.ErrUnknown
search:
	for at, t := range a.transactions() {
		if at.id != a.Hash {
			continue
		}
		b, failed := tx.Encode(t)
		a.pen.Raw(at.block[:])
		a.number(4, at.height)
		a.number(4, at.index)
		a.pen.Raw(b)
		e = failed
		break search
	}
	return e
}

func (a *answer) writeTip() api.Errno {
	tip := a.store.Tip()
	hash, e := a.store.Block(tip)
	if e != api.OK {
		return api.ErrUnknown
	}
	a.number(4, tip)
	a.pen.Raw(hash[:])
	return api.OK
}

// downward yields the hashes of the blocks of the chain with their heights, the tip's first.
func (a *answer) downward() iter.Seq2[int, api.Hash] {
	return func(yield func(int, api.Hash) bool) {
		for height := a.store.Tip(); height >= 0; height-- {
			hash, e := a.store.Block(height)
			if e != api.OK || !yield(height, hash) {
				return
			}
		}
	}
}

// place is where a transaction stands.
type place struct {
	id, block     api.Hash
	height, index int
}

// transactions yields the transactions of the chain with their places: those of the greatest height first, and the least index first.
func (a *answer) transactions() iter.Seq2[place, api.Tx] {
	return func(yield func(place, api.Tx) bool) {
		for height, hash := range a.downward() {
			b, ok := a.source.Block(hash)
			ids, e := block.Ids(b)
			if !ok || e != api.OK {
				continue
			}
			for i, id := range ids {
				if !yield(place{id, hash, height, i}, b.Txs[i]) {
					return
				}
			}
		}
	}
}

// block writes the bytes of a block of the source.
func (a *answer) block(hash api.Hash) api.Errno {
	b, ok := a.source.Block(hash)
	encoded, e := block.Encode(b)
	if !ok || e != api.OK {
		return api.ErrUnknown
	}
	a.pen.Raw(encoded)
	return api.OK
}

// version writes a coin.
func (a *answer) version(v api.Version) {
	a.money(v.Value)
	a.number(4, v.Made)
	a.flag(v.Base)
	a.pen.Bytes(v.Script)
}

func (a *answer) flag(is bool) {
	if is {
		a.number(1, 1)
	} else {
		a.number(1, 0)
	}
}

func (a *answer) number(size, n int) { a.pen.Fixed(size, uint64(n)) }

func (a *answer) money(n int64) { a.pen.Fixed(8, uint64(n)) }
