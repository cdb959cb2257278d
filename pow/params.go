package pow

import (
	"purser/api"
	"purser/block"
	"purser/merkle"
	"purser/target"
)

const (
	leastEvery   = 2
	mostEvery    = 2016
	mostSpan     = 1<<31 - 1
	mostHalving  = 1<<31 - 1
	mostMaturity = 10000
	mostDepth    = 20
	none         = 1<<32 - 1 // the output number that a coinbase spends, and its sequence number
	genesisText  = "genesis"
)

// Check returns an error unless p is valid.
func Check(p api.Params) api.Errno {
	within := func(n, least, most int64) bool { return n >= least && n <= most }
	for _, valid := range []func() bool{
		func() bool { _, e := target.Expand(p.Limit); return e == api.OK },
		func() bool { return within(int64(p.Every), leastEvery, mostEvery) },
		func() bool { return within(p.Span, 1, mostSpan) },
		func() bool { return within(int64(p.Halving), 1, mostHalving) },
		// The product itself could be too great.
		func() bool { return within(p.Subsidy, 0, api.MaxMoney/2/int64(p.Halving)) },
		func() bool { return within(int64(p.Maturity), 1, mostMaturity) },
		func() bool { return within(int64(p.Depth), 1, mostDepth) },
		func() bool { return within(int64(p.Extra), 0, api.MaxExtra) },
	} {
		if !valid() {
			return api.ErrPow
		}
	}
	return api.OK
}

// Genesis returns the genesis block.
func Genesis(p api.Params) (api.Block, api.Errno) {
	if e := Check(p); e != api.OK {
		return api.Block{}, e
	}
	b := api.Block{
		Header: api.Header{Version: 1, Time: p.Time, Bits: p.Limit},
		Txs: []api.Tx{{
			Version: 1,
			In:      []api.In{{Prev: api.Outpoint{N: none}, Script: []byte(genesisText), Seq: none}},
			Out:     []api.Out{{Value: p.Subsidy, Script: []byte{api.OpReturn}}},
		}},
	}
	// The transaction is valid, so that it has a txid, and the list of one a root.
	ids, _ := block.Ids(b)
	b.Header.Root, _ = merkle.Root(ids)
	return b, api.OK
}
