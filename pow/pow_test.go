package pow_test

import (
	"bytes"
	"math"
	"math/big"
	"math/rand"
	"slices"
	"testing"

	"purser/api"
	"purser/block"
	"purser/pow"
	"purser/target"
	"purser/tx"
	"purser/wide"
)

const easy = 0x207FFFFF

func params() api.Params {
	return api.Params{Limit: easy, Every: 4, Span: 400, Subsidy: 50, Halving: 10, Maturity: 2, Depth: 5, Extra: 3, Time: 1000}
}

// branch returns a branch of headers with these bits and times, which fails the test if it is asked for others.
func branch(t *testing.T, bits uint32, times ...uint32) func(height int) api.Header {
	return func(height int) api.Header {
		if height < 0 || height >= len(times) {
			t.Errorf("asked for height %d of %d", height, len(times))
			return api.Header{}
		}
		return api.Header{Bits: bits, Time: times[height]}
	}
}

func every100(n int) []uint32 {
	l := make([]uint32, n)
	for i := range l {
		l[i] = uint32(1000 + 100*i)
	}
	return l
}

// P23.1
func TestCheck(t *testing.T) {
	for name, c := range map[string]struct {
		change func(p *api.Params)
		e      api.Errno
	}{
		"nothing":          {func(p *api.Params) {}, api.OK},
		"zero":             {func(p *api.Params) { *p = api.Params{} }, api.ErrPow},
		"limit 0":          {func(p *api.Params) { p.Limit = 0 }, api.ErrPow},
		"limit not valid":  {func(p *api.Params) { p.Limit = 0x20FFFFFF }, api.ErrPow},
		"limit too great":  {func(p *api.Params) { p.Limit = 0x217FFFFF }, api.ErrPow},
		"greatest limit":   {func(p *api.Params) { p.Limit = 0x2100FFFF }, api.OK},
		"least limit":      {func(p *api.Params) { p.Limit = 0x01010000 }, api.OK},
		"every 1":          {func(p *api.Params) { p.Every = 1 }, api.ErrPow},
		"every 0":          {func(p *api.Params) { p.Every = 0 }, api.ErrPow},
		"every 2":          {func(p *api.Params) { p.Every = 2 }, api.OK},
		"every 2016":       {func(p *api.Params) { p.Every = 2016 }, api.OK},
		"every 2017":       {func(p *api.Params) { p.Every = 2017 }, api.ErrPow},
		"span 0":           {func(p *api.Params) { p.Span = 0 }, api.ErrPow},
		"span 1":           {func(p *api.Params) { p.Span = 1 }, api.OK},
		"greatest span":    {func(p *api.Params) { p.Span = math.MaxInt32 }, api.OK},
		"greater span":     {func(p *api.Params) { p.Span = math.MaxInt32 + 1 }, api.ErrPow},
		"span -1":          {func(p *api.Params) { p.Span = -1 }, api.ErrPow},
		"halving 0":        {func(p *api.Params) { p.Halving = 0 }, api.ErrPow},
		"halving -1":       {func(p *api.Params) { p.Halving = -1 }, api.ErrPow},
		"greatest halving": {func(p *api.Params) { p.Halving = math.MaxInt32; p.Subsidy = 0 }, api.OK},
		"greater halving":  {func(p *api.Params) { p.Halving = math.MaxInt32 + 1; p.Subsidy = 0 }, api.ErrPow},
		"subsidy -1":       {func(p *api.Params) { p.Subsidy = -1 }, api.ErrPow},
		"no subsidy":       {func(p *api.Params) { p.Subsidy = 0 }, api.OK},
		"most money":       {func(p *api.Params) { p.Subsidy = api.MaxMoney / 20 }, api.OK},
		"more money":       {func(p *api.Params) { p.Subsidy = api.MaxMoney/20 + 1 }, api.ErrPow},
		"Bitcoin's":        {func(p *api.Params) { p.Subsidy = 5000000000; p.Halving = 210000 }, api.OK},
		"a satoshi more":   {func(p *api.Params) { p.Subsidy = 5000000001; p.Halving = 210000 }, api.ErrPow},
		"all at once":      {func(p *api.Params) { p.Subsidy = api.MaxMoney / 2; p.Halving = 1 }, api.OK},
		"beyond 63 bits":   {func(p *api.Params) { p.Subsidy = 1 << 62; p.Halving = 4 }, api.ErrPow},
		"greatest number":  {func(p *api.Params) { p.Subsidy = math.MaxInt64; p.Halving = math.MaxInt32 }, api.ErrPow},
		"maturity 0":       {func(p *api.Params) { p.Maturity = 0 }, api.ErrPow},
		"maturity 1":       {func(p *api.Params) { p.Maturity = 1 }, api.OK},
		"maturity 10000":   {func(p *api.Params) { p.Maturity = 10000 }, api.OK},
		"maturity 10001":   {func(p *api.Params) { p.Maturity = 10001 }, api.ErrPow},
		"depth 0":          {func(p *api.Params) { p.Depth = 0 }, api.ErrPow},
		"depth 1":          {func(p *api.Params) { p.Depth = 1 }, api.OK},
		"depth 20":         {func(p *api.Params) { p.Depth = 20 }, api.OK},
		"depth 21":         {func(p *api.Params) { p.Depth = 21 }, api.ErrPow},
		"extra -1":         {func(p *api.Params) { p.Extra = -1 }, api.ErrPow},
		"extra 0":          {func(p *api.Params) { p.Extra = 0 }, api.OK},
		"extra 50":         {func(p *api.Params) { p.Extra = 50 }, api.OK},
		"extra 51":         {func(p *api.Params) { p.Extra = 51 }, api.ErrPow},
		"time 0":           {func(p *api.Params) { p.Time = 0 }, api.OK},
		"last time":        {func(p *api.Params) { p.Time = math.MaxUint32 }, api.OK},
	} {
		p := params()
		c.change(&p)
		if e := pow.Check(p); e != c.e {
			t.Error(name, e)
		}
		b, e := pow.Genesis(p)
		if e != c.e || e != api.OK && !block.Same(b, api.Block{}) {
			t.Error(name, "Genesis", e)
		}
		if c.e == api.OK {
			continue
		}
		if n, e := pow.Bits(p, 1, branch(t, easy, 1000)); n != 0 || e != api.ErrPow {
			t.Error(name, "Bits", n, e)
		}
		if e := pow.Judge(p, api.Header{}, 1, branch(t, easy, 1000)); e != api.ErrPow {
			t.Error(name, "Judge", e)
		}
		if e := pow.Own(p, api.Header{}); e != api.ErrPow {
			t.Error(name, "Own", e)
		}
	}
}

// P23.1
func TestGenesis(t *testing.T) {
	b, e := pow.Genesis(params())
	if e != api.OK || len(b.Txs) != 1 {
		t.Fatal(e)
	}
	want := api.Tx{
		Version: 1,
		In:      []api.In{{Prev: api.Outpoint{N: math.MaxUint32}, Script: []byte("genesis"), Seq: math.MaxUint32}},
		Out:     []api.Out{{Value: 50, Script: []byte{0x6A}}},
	}
	id, _ := tx.Id(want)
	if !tx.Same(b.Txs[0], want) || b.Header != (api.Header{Version: 1, Root: id, Time: 1000, Bits: easy}) {
		t.Error(b)
	}
}

// P23.1
func TestWork(t *testing.T) {
	for bits, want := range map[uint32]api.Wide{
		easy: wide.Of(2), 0x1D00FFFF: wide.Of(4295032833), 0x2100FFFF: wide.Of(1), 0x01010000: wide.Left(wide.Of(1), 255),
		0: {}, 0x20FFFFFF: {}, 0x217FFFFF: {}, 0x01003456: {},
	} {
		if got := pow.Work(bits); got != want {
			t.Errorf("Work(%08X): %s", bits, wide.Digits(got))
		}
	}
}

// P23.2
func TestBits(t *testing.T) {
	p := params()
	for n, want := range map[int]uint32{1: easy, 2: easy, 3: easy, 4: 0x205FFFFF, 5: easy, 8: 0x205FFFFF} {
		if got, e := pow.Bits(p, n, branch(t, easy, every100(n)...)); got != want || e != api.OK {
			t.Errorf("Bits at %d: %08X, %d", n, got, e)
		}
	}
	const half = 0x203FFFFF
	for name, c := range map[string]struct {
		bits  uint32
		times []uint32
		want  uint32
	}{
		"as asked":             {half, []uint32{0, 0, 0, 400}, half},
		"too fast":             {half, []uint32{1000, 0, 0, 1010}, 0x200FFFFF},
		"backwards":            {half, []uint32{1000, 9, 9, 0}, 0x200FFFFF},
		"a quarter":            {half, []uint32{0, 0, 0, 100}, 0x200FFFFF},
		"a little more":        {half, []uint32{0, 0, 0, 104}, 0x2010A3D6},
		"slow":                 {half, []uint32{0, 0, 0, 600}, 0x205FFFFE},
		"slower than allowed":  {half, []uint32{0, 0, 0, 800}, 0x207FFFFE},
		"at the limit":         {half, []uint32{0, 0, 0, 3000}, easy},
		"four times":           {0x1F123456, []uint32{0, 0, 0, 1600}, 0x1F48D158},
		"more than four times": {0x1F123456, []uint32{0, 0, 0, math.MaxUint32}, 0x1F48D158},
	} {
		if got, e := pow.Bits(p, 4, branch(t, c.bits, c.times...)); got != c.want || e != api.OK {
			t.Errorf("%s: %08X, %d", name, got, e)
		}
	}
	p.Span = 1
	if got, e := pow.Bits(p, 4, branch(t, half, 5, 5, 5, 5)); got != half || e != api.OK {
		t.Errorf("at least a second: %08X, %d", got, e)
	}
	p.Span = 3
	if got, e := pow.Bits(p, 4, branch(t, 0x1F123456, 5, 5, 5, 5)); got != 0x1F061172 || e != api.OK {
		t.Errorf("a second of three: %08X, %d", got, e)
	}
	p = params()
	for _, bits := range []uint32{0, 0x20FFFFFF, 0x217FFFFF} {
		for n := range 5 {
			if got, e := pow.Bits(p, n, branch(t, bits, every100(5)...)); got != 0 || e != api.ErrBits && n > 0 || n == 0 && e != api.ErrPow {
				t.Error(bits, n, got, e)
			}
		}
	}
	for _, n := range []int{0, -1, -4, math.MinInt} {
		if got, e := pow.Bits(p, n, branch(t, easy)); got != 0 || e != api.ErrPow {
			t.Error(n, got, e)
		}
	}
	if got, e := pow.Bits(p, 4, nil); got != 0 || e != api.ErrPow {
		t.Error(got, e)
	}
}

// P23.2, P23.5
func TestBitsAgainstIntegers(t *testing.T) {
	r := rand.New(rand.NewSource(1))
	limit, _ := target.Expand(easy)
	toBig := func(a api.Wide) *big.Int { n, _ := new(big.Int).SetString(wide.Digits(a), 16); return n }
	for range 500 {
		p := params()
		p.Every, p.Span = 2+r.Intn(9), 1+r.Int63n(1<<31-1)>>r.Intn(31)
		bits := uint32(0x04+r.Intn(0x1C))<<24 | uint32(0x8000+r.Intn(0x7F0000))
		old, e := target.Expand(bits)
		if e != api.OK {
			t.Fatal(bits)
		}
		times := make([]uint32, p.Every)
		for i := range times {
			times[i] = r.Uint32() >> r.Intn(32)
		}
		got, e := pow.Bits(p, p.Every, branch(t, bits, times...))
		elapsed := min(max(int64(times[p.Every-1])-int64(times[0]), p.Span/4, 1), 4*p.Span)
		want := new(big.Int).Mul(toBig(old), big.NewInt(elapsed))
		if want.Quo(want, big.NewInt(p.Span)); want.Cmp(toBig(limit)) > 0 {
			want = toBig(limit)
		}
		scaled, f := target.Expand(got)
		shift := uint(max(0, 8*(int(got>>24)-3)))
		if e != api.OK || f != api.OK || want.Rsh(want, shift).Cmp(new(big.Int).Rsh(toBig(scaled), shift)) != 0 {
			t.Errorf("%08X, %d of %d seconds: %08X, %d", bits, elapsed, p.Span, got, e)
		}
		if wide.Compare(scaled, limit) > 0 || wide.Compare(wide.Right(scaled, 2), old) > 0 {
			t.Errorf("%08X becomes %08X", bits, got)
		}
	}
}

// P23.2
func TestMedian(t *testing.T) {
	for _, c := range []struct {
		times []uint32
		want  uint32
	}{
		{[]uint32{7}, 7}, {[]uint32{7, 5}, 7}, {[]uint32{5, 7}, 7}, {[]uint32{7, 5, 6}, 6}, {[]uint32{4, 1, 3, 2}, 3},
		{[]uint32{9, 9, 1, 1}, 9}, {[]uint32{1, 2, 3, 4, 5, 6, 7, 8, 9, 10}, 6},
		{[]uint32{11, 10, 9, 8, 7, 6, 5, 4, 3, 2, 1}, 6},
		{[]uint32{100, 1, 2, 3, 4, 5, 6, 7, 8, 9, 10, 11}, 6},
		{[]uint32{1, 1, 1, math.MaxUint32, 2, 9, 4, 8, 3, 7, 5, 6, 10, 11}, 7},
	} {
		kept := slices.Clone(c.times)
		if got := pow.Median(len(c.times), branch(t, easy, c.times...)); got != c.want || !slices.Equal(kept, c.times) {
			t.Error(c.times, got)
		}
	}
	for _, n := range []int{0, -1, math.MinInt} {
		if got := pow.Median(n, branch(t, easy)); got != 0 {
			t.Error(n, got)
		}
	}
	if got := pow.Median(5, nil); got != 0 {
		t.Error(got)
	}
	asked := 0
	far := pow.Median(1<<40, func(height int) api.Header {
		asked++
		return api.Header{Time: uint32(height & 0xFFFF)}
	})
	if far != 0xFFFA || asked != 11 {
		t.Error(far, asked)
	}
}

// mined returns h with a nonce by which its hash is not above the target of its bits, or is above it.
func mined(h api.Header, good bool) api.Header {
	t, _ := target.Expand(h.Bits)
	for target.Below(block.Hash(h), t) != good {
		h.Nonce++
	}
	return h
}

// P23.3, P23.5
func TestJudge(t *testing.T) {
	p := params()
	for name, c := range map[string]struct {
		h    api.Header
		n    int
		bits uint32
		e    api.Errno
	}{
		"good":              {mined(api.Header{Bits: easy, Time: 1201}, true), 3, easy, api.OK},
		"a retarget":        {mined(api.Header{Bits: 0x205FFFFF, Time: 1301}, true), 4, easy, api.OK},
		"no retarget":       {mined(api.Header{Bits: easy, Time: 1301}, true), 4, easy, api.ErrBits},
		"other bits":        {mined(api.Header{Bits: 0x205FFFFF, Time: 1201}, true), 3, easy, api.ErrBits},
		"bits not valid":    {api.Header{Bits: 0x20FFFFFF, Time: 1201}, 3, easy, api.ErrBits},
		"the median time":   {mined(api.Header{Bits: easy, Time: 1100}, true), 3, easy, api.ErrTime},
		"a second later":    {mined(api.Header{Bits: easy, Time: 1101}, true), 3, easy, api.OK},
		"before it":         {mined(api.Header{Bits: easy, Time: 0}, true), 3, easy, api.ErrTime},
		"no work":           {mined(api.Header{Bits: easy, Time: 1201}, false), 3, easy, api.ErrWork},
		"ErrTime first":     {mined(api.Header{Bits: easy, Time: 1}, false), 3, easy, api.ErrTime},
		"ErrBits first":     {mined(api.Header{Bits: 0x205FFFFF, Time: 1}, false), 3, easy, api.ErrBits},
		"no height":         {mined(api.Header{Bits: easy, Time: 1201}, true), 0, easy, api.ErrPow},
		"parent's bits":     {mined(api.Header{Bits: easy, Time: 1201}, true), 3, 0x20FFFFFF, api.ErrBits},
		"not the last time": {mined(api.Header{Bits: easy, Time: 1150}, true), 3, easy, api.OK},
	} {
		if e := pow.Judge(p, c.h, c.n, branch(t, c.bits, every100(c.n)...)); e != c.e {
			t.Error(name, e)
		}
		if e := pow.Own(p, c.h); c.e == api.OK && e != api.OK {
			t.Error(name, "Own", e)
		}
	}
	if e := pow.Judge(p, api.Header{}, 3, nil); e != api.ErrPow {
		t.Error(e)
	}
}

// P23.3
func TestOwn(t *testing.T) {
	p := params()
	p.Limit = 0x205FFFFF
	for name, c := range map[string]struct {
		h api.Header
		e api.Errno
	}{
		"the limit":      {mined(api.Header{Bits: 0x205FFFFF}, true), api.OK},
		"below it":       {mined(api.Header{Bits: 0x203FFFFF}, true), api.OK},
		"above it":       {mined(api.Header{Bits: easy}, true), api.ErrBits},
		"just above it":  {mined(api.Header{Bits: 0x20600000}, true), api.ErrBits},
		"not valid":      {api.Header{Bits: 0x20DFFFFF}, api.ErrBits},
		"zero":           {api.Header{}, api.ErrBits},
		"no work":        {mined(api.Header{Bits: 0x205FFFFF}, false), api.ErrWork},
		"much too great": {api.Header{Bits: 0x217FFFFF}, api.ErrBits},
		"hardly any":     {api.Header{Bits: 0x01010000}, api.ErrWork},
	} {
		if e := pow.Own(p, c.h); e != c.e {
			t.Error(name, e)
		}
	}
}

// P23.4
func TestNothingIsShared(t *testing.T) {
	first, _ := pow.Genesis(params())
	first.Txs[0].In[0].Script[0] = 'x'
	first.Txs[0].Out[0].Script[0] = 0
	second, _ := pow.Genesis(params())
	if !bytes.Equal(second.Txs[0].In[0].Script, []byte("genesis")) || second.Txs[0].Out[0].Script[0] != 0x6A {
		t.Error("Genesis gives memory twice")
	}
}
