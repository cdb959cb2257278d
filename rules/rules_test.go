package rules_test

import (
	"math"
	"math/rand"
	"slices"
	"testing"

	"purser/api"
	"purser/coin"
	"purser/rules"
	"purser/sign"
	"purser/spend"
	"purser/store"
	"purser/tx"
)

var (
	yes  = []byte{0x51} // a lock that anybody opens
	no   = []byte{0x00}
	hash = api.Hash{9, 9}
)

func params() api.Params {
	return api.Params{Subsidy: 50, Halving: 10, Maturity: 2}
}

func out(value int64, script []byte) api.Out { return api.Out{Value: value, Script: script} }

func coinbase(height int, l ...api.Out) api.Tx {
	return api.Tx{Lock: uint32(height), In: []api.In{{Prev: api.Outpoint{N: math.MaxUint32}, Script: []byte("text")}}, Out: l}
}

func id(t *testing.T, x api.Tx) api.Hash {
	t.Helper()
	h, e := tx.Id(x)
	if e != api.OK {
		t.Fatal(e)
	}
	return h
}

// at is the outpoint of output n of a transaction.
func at(t *testing.T, x api.Tx, n int) api.Outpoint {
	t.Helper()
	return api.Outpoint{Tx: id(t, x), N: uint32(n)}
}

// pay spends outpoints, and makes outputs.
func pay(points []api.Outpoint, l ...api.Out) api.Tx {
	x := api.Tx{Version: 1, Out: l}
	for _, p := range points {
		x.In = append(x.In, api.In{Prev: p})
	}
	return x
}

func from(points ...api.Outpoint) []api.Outpoint { return points }

func block(l ...api.Tx) api.Block { return api.Block{Txs: l} }

// connect applies a block to a store.
func connect(t *testing.T, s *store.Store, b api.Block) api.Apply {
	t.Helper()
	a, e := rules.Connect(params(), s, b, hash)
	if e != api.OK {
		t.Fatal(s.Tip()+1, e)
	}
	if e := s.Apply(a); e != api.OK {
		t.Fatal("the changes do not fit", e)
	}
	return a
}

// three returns a store with three blocks, and their coinbases, each of which pays 30 and 20.
func three(t *testing.T) (*store.Store, []api.Tx) {
	t.Helper()
	s := store.New()
	var l []api.Tx
	for height := range 3 {
		x := coinbase(height, out(30, yes), out(20, yes))
		l = append(l, x)
		connect(t, s, block(x))
	}
	return s, l
}

// P25.1
func TestForm(t *testing.T) {
	p := api.Outpoint{Tx: api.Hash{1}}
	q := api.Outpoint{Tx: api.Hash{1}, N: 1}
	good := pay(from(p, q), out(5, yes))
	for name, c := range map[string]struct {
		b api.Block
		e api.Errno
	}{
		"good":               {block(coinbase(0, out(50, yes)), good), api.OK},
		"coinbase alone":     {block(coinbase(0, out(50, yes))), api.OK},
		"none":               {api.Block{}, api.ErrRules},
		"no coinbase":        {block(good), api.ErrRules},
		"not ahead":          {block(good, coinbase(0, out(50, yes))), api.ErrRules},
		"two":                {block(coinbase(0, out(50, yes)), coinbase(1, out(50, yes))), api.ErrRules},
		"not valid":          {block(coinbase(0, out(50, yes)), pay(nil, out(5, yes))), api.ErrRules},
		"no outputs":         {block(coinbase(0)), api.ErrRules},
		"a point twice":      {block(coinbase(0, out(50, yes)), pay(from(p, q, p), out(5, yes))), api.ErrRules},
		"of two, a twice":    {block(coinbase(0, out(50, yes)), good, pay(from(p), out(5, yes))), api.OK},
		"-1":                 {block(coinbase(0, out(50, yes)), pay(from(p), out(-1, yes))), api.ErrRules},
		"-1 in the coinbase": {block(coinbase(0, out(-1, yes))), api.ErrRules},
		"most":               {block(coinbase(0, out(api.MaxMoney, yes))), api.OK},
		"more":               {block(coinbase(0, out(api.MaxMoney+1, yes))), api.ErrRules},
		"greatest":           {block(coinbase(0, out(math.MaxInt64, yes), out(math.MaxInt64, yes))), api.ErrRules},
		"sum":                {block(coinbase(0, out(api.MaxMoney, yes), out(1, yes))), api.ErrRules},
		"minus and plus":     {block(coinbase(0, out(api.MaxMoney+1, yes), out(-1, yes))), api.ErrRules},
		"long script":        {block(coinbase(0, out(1, make([]byte, 2001)))), api.ErrRules},
		"short text":         {block(api.Tx{In: []api.In{{Prev: api.Outpoint{N: math.MaxUint32}}}, Out: []api.Out{out(1, yes)}}), api.OK},
	} {
		if e := rules.Form(c.b); e != c.e {
			t.Error(name, e)
		}
		if c.e == api.OK {
			continue
		}
		if a, e := rules.Connect(params(), store.New(), c.b, hash); e != c.e || !coin.Same(a, api.Apply{}) {
			t.Error(name, "Connect", e)
		}
		if n, e := rules.Fees(params(), store.New(), c.b); e != c.e || n != 0 {
			t.Error(name, "Fees", e)
		}
	}
}

// P25.1
func TestSubsidy(t *testing.T) {
	for _, c := range []struct {
		subsidy         int64
		halving, height int
		want            int64
	}{
		{50, 10, 0, 50}, {50, 10, 9, 50}, {50, 10, 10, 25}, {50, 10, 19, 25}, {50, 10, 20, 12}, {50, 10, 50, 1}, {50, 10, 60, 0}, {50, 10, -1, 0},
		{50, 10, math.MaxInt, 0}, {50, 10, math.MinInt, 0}, {50, 0, 1000, 50}, {50, -3, 1000, 50}, {50, 0, -1, 0}, {-1, 10, 5, 0}, {math.MinInt64, 0, 5, 0},
		{math.MaxInt64, 10, 0, api.MaxMoney}, {api.MaxMoney + 1, 10, 10, api.MaxMoney / 2}, {math.MaxInt64, 0, 7, api.MaxMoney},
		{api.MaxMoney, 1, 50, 1}, {api.MaxMoney, 1, 51, 0}, {api.MaxMoney, 1, 62, 0}, {api.MaxMoney, 1, 63, 0}, {api.MaxMoney, 1, 64, 0}, {api.MaxMoney, 1, 1 << 40, 0},
		{50, math.MaxInt, math.MaxInt - 1, 50}, {50, math.MaxInt, math.MaxInt, 25},
	} {
		p := api.Params{Subsidy: c.subsidy, Halving: c.halving}
		if got := rules.Subsidy(p, c.height); got != c.want {
			t.Error(c, got)
		}
	}
}

// P25.2
func TestNoStore(t *testing.T) {
	for _, s := range []*store.Store{nil, {}} {
		for _, b := range []api.Block{{}, block(coinbase(0, out(50, yes)))} {
			if a, e := rules.Connect(params(), s, b, hash); e != api.ErrNil || !coin.Same(a, api.Apply{}) {
				t.Error(e)
			}
			if n, e := rules.Fees(params(), s, b); e != api.ErrNil || n != 0 {
				t.Error(n, e)
			}
		}
	}
}

// P25.2
func TestErrors(t *testing.T) {
	s, l := three(t)
	first, second, last := at(t, l[0], 0), at(t, l[1], 0), at(t, l[2], 0)
	locked := coinbase(3, out(20, no), out(20, nil))
	good := pay(from(first), out(30, yes))
	missing := api.Outpoint{Tx: api.Hash{1}}
	base := coinbase(3, out(50, yes))
	for name, c := range map[string]struct {
		b api.Block
		e api.Errno
	}{
		"nothing spent":           {block(base), api.OK},
		"mature":                  {block(base, good), api.OK},
		"just mature":             {block(base, pay(from(second), out(30, yes))), api.OK},
		"immature":                {block(base, pay(from(last), out(30, yes))), api.ErrImmature},
		"its own coinbase":        {block(base, pay(from(at(t, base, 0)), out(1, yes))), api.ErrImmature},
		"missing":                 {block(base, pay(from(missing), out(1, yes))), api.ErrMissing},
		"another number":          {block(base, pay(from(api.Outpoint{Tx: first.Tx, N: 2}), out(1, yes))), api.ErrMissing},
		"spent in the block":      {block(base, good, pay(from(first), out(29, yes))), api.ErrMissing},
		"a later one":             {block(base, pay(from(at(t, good, 0)), out(30, yes)), good), api.ErrMissing},
		"an earlier one":          {block(base, good, pay(from(at(t, good, 0)), out(30, yes))), api.OK},
		"its fee":                 {block(coinbase(3, out(51, yes)), good, pay(from(at(t, good, 0)), out(29, yes))), api.OK},
		"more than its fee":       {block(coinbase(3, out(52, yes)), good, pay(from(at(t, good, 0)), out(29, yes))), api.ErrClaim},
		"too much":                {block(base, pay(from(first), out(31, yes))), api.ErrSpends},
		"too much in sum":         {block(base, pay(from(first, second), out(30, yes), out(31, yes))), api.ErrSpends},
		"all of two":              {block(base, pay(from(first, second), out(30, yes), out(30, yes))), api.OK},
		"claims more":             {block(coinbase(3, out(50, yes), out(1, yes))), api.ErrClaim},
		"claims less":             {block(coinbase(3, out(20, yes))), api.OK},
		"claims most":             {block(coinbase(3, out(api.MaxMoney, yes))), api.ErrClaim},
		"made before":             {block(l[2]), api.ErrTwice},
		"made before, spent now":  {block(l[0], pay(from(first), out(1, yes))), api.ErrTwice},
		"missing, then immature":  {block(base, pay(from(missing, last), out(1, yes))), api.ErrMissing},
		"immature, then missing":  {block(base, pay(from(last, missing), out(1, yes))), api.ErrImmature},
		"immature, and too much":  {block(base, pay(from(last), out(99, yes))), api.ErrImmature},
		"too much, then claims":   {block(coinbase(3, out(99, yes)), pay(from(first), out(31, yes))), api.ErrSpends},
		"the first error":         {block(base, pay(from(last), out(1, yes)), pay(from(missing), out(1, yes))), api.ErrImmature},
		"the same one again":      {block(base, good, good), api.ErrTwice},
		"burnt, again":            {block(base, pay(from(first), out(3, []byte{0x6A})), pay(from(first), out(3, []byte{0x6A}))), api.ErrMissing},
		"locked by a script":      {block(locked, pay(from(first), out(1, no)), pay(from(at(t, pay(from(first), out(1, no)), 0)), out(1, yes))), api.ErrScript},
		"locked, and too much":    {block(locked, pay(from(first), out(1, no)), pay(from(at(t, pay(from(first), out(1, no)), 0)), out(9, yes))), api.ErrScript},
		"burnt ones are missing":  {block(base, pay(from(first), out(1, []byte{0x6A})), pay(from(at(t, pay(from(first), out(1, []byte{0x6A})), 0)), out(1, yes))), api.ErrMissing},
		"what is long is burnt":   {block(base, pay(from(first), out(1, make([]byte, 521))), pay(from(at(t, pay(from(first), out(1, make([]byte, 521))), 0)), out(1, yes))), api.ErrMissing},
		"an unlock with an error": {block(base, api.Tx{In: []api.In{{Prev: first, Script: []byte{0x61}}}, Out: []api.Out{out(1, yes)}}), api.ErrScript},
	} {
		before := s.Every()
		a, e := rules.Connect(params(), s, c.b, hash)
		if e != c.e || e != api.OK && !coin.Same(a, api.Apply{}) {
			t.Error(name, e)
		}
		n, f := rules.Fees(params(), s, c.b)
		if c.e != api.ErrClaim && f != c.e || c.e == api.ErrClaim && f != api.OK || f != api.OK && n != 0 {
			t.Error(name, "Fees", n, f)
		}
		if !coin.SameVersions(s.Every(), before) || s.Tip() != 2 {
			t.Error(name, "the store changed")
		}
		if e == api.OK && s.Copy().Apply(a) != api.OK {
			t.Error(name, "the changes do not fit")
		}
	}
}

// P25.2: an outpoint may be made again only after it was spent, and not in the same block
func TestTwice(t *testing.T) {
	s, l := three(t)
	first := at(t, l[0], 0)
	again := coinbase(0, out(30, yes), out(20, yes))
	connect(t, s, block(coinbase(3, out(1, yes)), pay(from(first, at(t, l[0], 1)), out(50, yes))))
	a := connect(t, s, block(again))
	if len(a.Made) != 2 || a.Made[0].Point != first || a.Made[0].Made != 4 {
		t.Error(a)
	}
	if v, ok, _ := s.Coin(first, 4); !ok || v.Made != 4 {
		t.Error(v, ok)
	}
	half := coinbase(1, out(30, yes), out(20, yes))
	_, e := rules.Connect(params(), s, block(half), hash)
	if e != api.ErrTwice {
		t.Error("there", e)
	}
	s, l = three(t)
	connect(t, s, block(coinbase(3, out(1, yes)), pay(from(at(t, l[0], 0)), out(30, yes))))
	if _, e := rules.Connect(params(), s, block(again), hash); e != api.ErrTwice {
		t.Error("one of two is there", e)
	}
	burnt := coinbase(0, out(30, yes), out(20, []byte{0x6A}))
	s = store.New()
	connect(t, s, block(burnt))
	if _, e := rules.Connect(params(), s, block(burnt), hash); e != api.ErrTwice {
		t.Error("the other output is there", e)
	}
	only := coinbase(5, out(30, []byte{0x6A}))
	connect(t, s, block(only))
	if _, e := rules.Connect(params(), s, block(only), hash); e != api.OK {
		t.Error("a burnt one is not there", e)
	}
}

// P25.2: made and spent in a block, and made once more
func TestSpentInTheBlock(t *testing.T) {
	p := params()
	p.Maturity = 0
	s, l := three(t)
	base := coinbase(7, out(50, yes))
	inner := pay(from(at(t, base, 0)), out(50, yes))
	a, e := rules.Connect(p, s, block(base, inner), hash)
	if e != api.OK || len(a.Made) != 2 || len(a.Spends) != 1 || a.Spends[0] != (api.Spend{Point: at(t, base, 0), Spender: id(t, inner)}) {
		t.Error(a, e)
	}
	x := pay(from(at(t, l[0], 0)), out(30, yes))
	y := pay(from(at(t, x, 0)), out(30, yes))
	if _, e := rules.Connect(params(), s, block(base, x, y, x), hash); e != api.ErrTwice {
		t.Error("was spent by an earlier one", e)
	}
}

// P25.2, P25.4
func TestChanges(t *testing.T) {
	s, l := three(t)
	base := coinbase(3, out(7, yes), out(2, []byte{0x6A, 1}), out(3, no))
	x := pay(from(at(t, l[1], 1), at(t, l[0], 0)), out(11, nil), out(4, make([]byte, 521)), out(12, yes))
	y := pay(from(at(t, x, 2)), out(10, no))
	a, e := rules.Connect(params(), s, block(base, x, y), hash)
	made := func(x api.Tx, n int, base bool) api.Version {
		return api.Version{Point: at(t, x, n), Made: 3, Value: x.Out[n].Value, Script: x.Out[n].Script, Base: base}
	}
	want := api.Apply{
		Height: 3, Block: hash,
		Made:   []api.Version{made(base, 0, true), made(base, 2, true), made(x, 0, false), made(x, 2, false), made(y, 0, false)},
		Spends: []api.Spend{{Point: at(t, l[1], 1), Spender: id(t, x)}, {Point: at(t, l[0], 0), Spender: id(t, x)}, {Point: at(t, x, 2), Spender: id(t, y)}},
		Burnt:  6,
		Left:   50 + (50 - 27) + 2 - 12,
	}
	if e != api.OK || !coin.Same(a, want) {
		t.Errorf("%+v, %d", a, e)
	}
	if n, e := rules.Fees(params(), s, block(base, x, y)); n != 25 || e != api.OK {
		t.Error(n, e)
	}
	before, _ := s.Info(2)
	if e := s.Apply(a); e != api.OK {
		t.Fatal(e)
	}
	after, _ := s.Info(3)
	if after.Total != before.Total+50-a.Burnt-a.Left {
		t.Error(before, after)
	}
	for claim, left := range map[int64]int64{50: 0, 20: 30} {
		if a, e := rules.Connect(params(), s, block(coinbase(4, out(claim, yes))), hash); e != api.OK || a.Left != left {
			t.Error(claim, a.Left, e)
		}
	}
}

// P25.2: the subsidy is that of the block's height, and maturity ends no coins but coinbases'
func TestHeights(t *testing.T) {
	s, _ := three(t)
	var l []api.Tx
	for height := 3; height < 10; height++ {
		l = append(l, coinbase(height, out(50, yes)))
		connect(t, s, block(l[len(l)-1]))
	}
	if _, e := rules.Connect(params(), s, block(coinbase(10, out(26, yes))), hash); e != api.ErrClaim {
		t.Error(e)
	}
	if a, e := rules.Connect(params(), s, block(coinbase(10, out(25, yes))), hash); e != api.OK || a.Height != 10 {
		t.Error(e)
	}
	p := params()
	for maturity, want := range map[int]api.Errno{1: api.OK, 7: api.OK, 8: api.ErrImmature, math.MaxInt: api.ErrImmature, math.MinInt: api.OK} {
		p.Maturity = maturity
		if _, e := rules.Connect(p, s, block(coinbase(10, out(1, yes)), pay(from(at(t, l[0], 0)), out(1, yes))), hash); e != want {
			t.Error(maturity, e)
		}
	}
}

// P25.2: signatures
func TestSignatures(t *testing.T) {
	secret := api.Hash{5}
	lock := spend.PayKey(sign.Public(secret))
	s := store.New()
	base := coinbase(0, out(50, lock))
	connect(t, s, block(base))
	connect(t, s, block(coinbase(1, out(50, yes))))
	x := pay(from(at(t, base, 0)), out(40, yes))
	for by, want := range map[api.Hash]api.Errno{secret: api.OK, {6}: api.ErrScript} {
		script, e := spend.Signed(by, x, 0, lock)
		if e != api.OK {
			t.Fatal(e)
		}
		signed := tx.Copy(x)
		signed.In[0].Script = script
		if _, e := rules.Connect(params(), s, block(coinbase(2, out(60, yes)), signed), hash); e != want {
			t.Error(by, e)
		}
	}
}

// P25.4
func TestRandomChains(t *testing.T) {
	r := rand.New(rand.NewSource(1))
	for range 20 {
		s := store.New()
		coins := map[api.Outpoint]api.Version{}
		for height := range 40 {
			var points []api.Outpoint
			for p := range coins {
				points = append(points, p)
			}
			slices.SortFunc(points, tx.Compare)
			var l []api.Tx
			fees := int64(0)
			for _, p := range points {
				v := coins[p]
				if v.Base && height-v.Made < 2 || v.Value == 0 || r.Intn(3) > 0 {
					continue
				}
				fee := r.Int63n(v.Value + 1)
				fees += fee
				l = append(l, pay(from(p), out((v.Value-fee)/2, yes), out(v.Value-fee-(v.Value-fee)/2, [][]byte{yes, {0x6A}}[r.Intn(2)])))
			}
			b := block(append([]api.Tx{coinbase(height, out(r.Int63n(rules.Subsidy(params(), height)+fees+1), yes))}, l...)...)
			if n, e := rules.Fees(params(), s, b); n != fees || e != api.OK {
				t.Fatal(height, n, fees, e)
			}
			var before api.Info
			if height > 0 {
				before, _ = s.Info(height - 1)
			}
			a := connect(t, s, b)
			after, _ := s.Info(height)
			if after.Total != before.Total+rules.Subsidy(params(), height)-a.Burnt-a.Left {
				t.Fatal(height, before, after)
			}
			for _, v := range a.Made {
				coins[v.Point] = v
			}
			for _, x := range a.Spends {
				delete(coins, x.Point)
			}
		}
	}
}

// P25.3
func TestNothingIsShared(t *testing.T) {
	s := store.New()
	script := []byte{0x51}
	base := coinbase(0, out(50, script))
	a, _ := rules.Connect(params(), s, block(base), hash)
	script[0] = 0
	a.Made[0].Script = append(a.Made[0].Script, 7)
	if a.Made[0].Script[0] != 0x51 {
		t.Error("an argument is kept")
	}
}
