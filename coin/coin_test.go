package coin_test

import (
	"bytes"
	"encoding/hex"
	"math"
	"math/rand"
	"slices"
	"strings"
	"testing"

	"purser/api"
	"purser/coin"
)

func point(n int) api.Outpoint {
	return api.Outpoint{Tx: api.Hash{byte(n), byte(n >> 8)}, N: uint32(n)}
}

// changes returns valid changes with so many versions made and spent.
func changes(made, spent int) api.Apply {
	a := api.Apply{Height: 258, Block: api.Hash{1, 31: 2}, Burnt: 3, Left: 4}
	for i := range made {
		a.Made = append(a.Made, api.Version{Point: point(i), Made: 258, Value: int64(i), Script: bytes.Repeat([]byte{7}, i%5), Base: i%2 == 0})
	}
	for i := range spent {
		a.Spends = append(a.Spends, api.Spend{Point: point(i + 1), Spender: api.Hash{byte(i)}})
	}
	return a
}

// P20.1
func TestCheck(t *testing.T) {
	for name, c := range map[string]struct {
		change func(a *api.Apply)
		e      api.Errno
	}{
		"nothing":             {func(a *api.Apply) {}, api.OK},
		"height -1":           {func(a *api.Apply) { *a = api.Apply{Height: -1} }, api.ErrCoin},
		"height 0":            {func(a *api.Apply) { *a = api.Apply{} }, api.OK},
		"greatest height":     {func(a *api.Apply) { *a = api.Apply{Height: 1 << 20} }, api.OK},
		"greater height":      {func(a *api.Apply) { *a = api.Apply{Height: 1<<20 + 1} }, api.ErrCoin},
		"another height":      {func(a *api.Apply) { a.Height++ }, api.ErrCoin},
		"burnt -1":            {func(a *api.Apply) { a.Burnt = -1 }, api.ErrCoin},
		"most burnt":          {func(a *api.Apply) { a.Burnt = api.MaxMoney }, api.OK},
		"more burnt":          {func(a *api.Apply) { a.Burnt = api.MaxMoney + 1 }, api.ErrCoin},
		"left -1":             {func(a *api.Apply) { a.Left = -1 }, api.ErrCoin},
		"most left":           {func(a *api.Apply) { a.Left = api.MaxMoney }, api.OK},
		"more left":           {func(a *api.Apply) { a.Left = api.MaxMoney + 1 }, api.ErrCoin},
		"made elsewhere":      {func(a *api.Apply) { a.Made[2].Made++ }, api.ErrCoin},
		"spent":               {func(a *api.Apply) { a.Made[0].Spent = 258 }, api.ErrCoin},
		"spent -1":            {func(a *api.Apply) { a.Made[0].Spent = -1 }, api.ErrCoin},
		"spender":             {func(a *api.Apply) { a.Made[2].Spender[31] = 1 }, api.ErrCoin},
		"value -1":            {func(a *api.Apply) { a.Made[1].Value = -1 }, api.ErrCoin},
		"greatest value":      {func(a *api.Apply) { a.Made[1].Value = api.MaxMoney }, api.OK},
		"greater value":       {func(a *api.Apply) { a.Made[1].Value = api.MaxMoney + 1 }, api.ErrCoin},
		"greatest sum":        {func(a *api.Apply) { a.Made[1].Value, a.Made[2].Value = api.MaxMoney, api.MaxMoney }, api.OK},
		"longest script":      {func(a *api.Apply) { a.Made[1].Script = make([]byte, 2000) }, api.OK},
		"longer script":       {func(a *api.Apply) { a.Made[1].Script = make([]byte, 2001) }, api.ErrCoin},
		"made twice":          {func(a *api.Apply) { a.Made[2].Point = a.Made[0].Point }, api.ErrCoin},
		"spent twice":         {func(a *api.Apply) { a.Spends[1].Point = a.Spends[0].Point }, api.ErrCoin},
		"made and spent":      {func(a *api.Apply) { a.Spends[0].Point = a.Made[0].Point }, api.OK},
		"another number only": {func(a *api.Apply) { a.Made[2].Point = a.Made[1].Point; a.Made[2].Point.N++ }, api.OK},
		"most made":           {func(a *api.Apply) { *a = changes(5000, 0) }, api.OK},
		"more made":           {func(a *api.Apply) { *a = changes(5001, 0) }, api.ErrCoin},
		"most spent":          {func(a *api.Apply) { *a = changes(0, 5000) }, api.OK},
		"more spent":          {func(a *api.Apply) { *a = changes(0, 5001) }, api.ErrCoin},
		"one made twice only": {func(a *api.Apply) { a.Made = append(a.Made, a.Made[0]); a.Spends = nil }, api.ErrCoin},
	} {
		a := changes(3, 2)
		c.change(&a)
		if e := coin.Check(a); e != c.e {
			t.Error(name, e)
		}
		b, e := coin.Encode(a)
		if e != c.e || (b == nil) != (e != api.OK) {
			t.Error(name, "Encode", e)
		}
		if e != api.OK {
			continue
		}
		if got, e := coin.Decode(b); e != api.OK || !coin.Same(got, a) {
			t.Error(name, "Decode", e)
		}
	}
}

const (
	head   = "02000000" + "0000000000000000000000000000000000000000000000000000000000000000" + "0100000000000000" + "0000000000000000"
	zeros  = "0000000000000000000000000000000000000000000000000000000000000000"
	made   = "01" + zeros + "05000000" + "0600000000000000" + "01" + "0261ff"
	spends = "01" + zeros + "07000000" + "09" + "00000000000000000000000000000000000000000000000000000000000000"
)

func unhex(t *testing.T, s string) []byte {
	t.Helper()
	b, err := hex.DecodeString(s)
	if err != nil {
		t.Fatal(err)
	}
	return b
}

// P20.1
func TestForm(t *testing.T) {
	full := api.Apply{
		Height: 2, Burnt: 1,
		Made:   []api.Version{{Point: api.Outpoint{N: 5}, Made: 2, Value: 6, Base: true, Script: []byte{0x61, 0xFF}}},
		Spends: []api.Spend{{Point: api.Outpoint{N: 7}, Spender: api.Hash{9}}},
	}
	for s, a := range map[string]api.Apply{head + "0000": {Height: 2, Burnt: 1}, head + made + spends: full} {
		if b, e := coin.Encode(a); e != api.OK || hex.EncodeToString(b) != s {
			t.Errorf("%x, %d", b, e)
		}
		if got, e := coin.Decode(unhex(t, s)); e != api.OK || !coin.Same(got, a) {
			t.Error(got, e)
		}
	}
	for name, s := range map[string]string{
		"none": "", "no numbers": head, "one number": head + "00", "more": head + "000000", "long number": head + "fd000000", "5001 made": head + "fd8913" + "00",
		"a huge number": head + "ffffffffffffffffff00", "a huge number spent": head + "00ffffffffffffffffff",
		"flag 2":    head + strings.Replace(made, "01"+"0261ff", "02"+"0261ff", 1) + spends,
		"twice":     head + "02" + made[2:] + made[2:] + "00",
		"spent 2":   head + "00" + "02" + spends[2:] + spends[2:],
		"too many":  head + "02" + made[2:] + spends,
		"too high":  "01001000" + head[8:] + "0000",
		"negative":  head[:72] + "ffffffffffffffff" + head[88:] + "0000",
		"too much":  head + strings.Replace(made, "0600000000000000", "0140075af07507ff", 1) + spends,
		"long text": head + strings.Replace(made, "0261ff", "fdd107"+strings.Repeat("00", 2001), 1) + spends,
	} {
		if got, e := coin.Decode(unhex(t, s)); e != api.ErrCoin || !coin.Same(got, api.Apply{}) {
			t.Error(name, e)
		}
	}
	b := unhex(t, head+made+spends)
	for n := range b {
		if got, e := coin.Decode(b[:n]); e != api.ErrCoin || !coin.Same(got, api.Apply{}) {
			t.Error(n, "bytes", e)
		}
	}
}

// P20.4
func TestThereAndBack(t *testing.T) {
	r := rand.New(rand.NewSource(1))
	for range 2000 {
		a := changes(r.Intn(4), r.Intn(4))
		b, _ := coin.Encode(a)
		if got, e := coin.Decode(b); e != api.OK || !coin.Same(got, a) {
			t.Error(a, e)
		}
		b[r.Intn(len(b))] ^= byte(1 + r.Intn(255))
		if got, e := coin.Decode(b); e == api.OK {
			if again, e := coin.Encode(got); e != api.OK || !bytes.Equal(again, b) {
				t.Errorf("%x", b)
			}
		}
	}
}

// P20.1
func TestCut(t *testing.T) {
	for height, want := range map[int]string{0: "00000000", 258: "02010000", 1 << 20: "00001000"} {
		b, e := coin.Cut(height)
		if e != api.OK || hex.EncodeToString(b) != want {
			t.Errorf("%d: %x, %d", height, b, e)
		}
		if got, e := coin.CutOf(b); got != height || e != api.OK {
			t.Error(height, got, e)
		}
	}
	for _, height := range []int{-1, 1<<20 + 1, math.MaxInt, math.MinInt} {
		if b, e := coin.Cut(height); b != nil || e != api.ErrCoin {
			t.Error(height, b, e)
		}
	}
	for _, s := range []string{"", "00", "000000", "0000000000", "01001000", "ffffffff"} {
		if got, e := coin.CutOf(unhex(t, s)); got != 0 || e != api.ErrCoin {
			t.Error(s, got, e)
		}
	}
}

// P20.2, P20.4
func TestThere(t *testing.T) {
	for _, c := range []struct {
		made, spent, height int
		want                bool
	}{
		{3, 5, 2, false}, {3, 5, 3, true}, {3, 5, 4, true}, {3, 5, 5, false}, {3, 5, 6, false},
		{3, 0, 2, false}, {3, 0, 3, true}, {3, 0, math.MaxInt, true}, {0, 0, 0, true}, {0, 0, -1, false}, {0, 1, 0, true}, {0, 1, 1, false},
		{3, 3, 2, false}, {3, 3, 3, false}, {3, 3, 4, false},
	} {
		if got := coin.There(api.Version{Made: c.made, Spent: c.spent}, c.height); got != c.want {
			t.Error(c, got)
		}
	}
}

// P20.2
func TestCompare(t *testing.T) {
	l := []api.Version{
		{}, {Made: 1}, {Made: 300}, {Point: api.Outpoint{N: 1}}, {Point: api.Outpoint{N: 1}, Made: 5}, {Point: api.Outpoint{N: 256}},
		{Point: api.Outpoint{Tx: api.Hash{31: 1}}}, {Point: api.Outpoint{Tx: api.Hash{1}}}, {Point: api.Outpoint{Tx: api.Hash{1}}, Made: 1},
	}
	for i, a := range l {
		a.Value, a.Script, a.Spent = int64(9-i), []byte{byte(9 - i)}, 9-i
		for j, b := range l {
			want := 0
			if i < j {
				want = -1
			} else if i > j {
				want = 1
			}
			if got := coin.Compare(a, b); got != want {
				t.Error(a, b, got)
			}
		}
	}
}

var alterations = map[string]func(a *api.Apply){
	"height":        func(a *api.Apply) { a.Height++ },
	"block":         func(a *api.Apply) { a.Block[31]++ },
	"burnt":         func(a *api.Apply) { a.Burnt++ },
	"left":          func(a *api.Apply) { a.Left++ },
	"fewer made":    func(a *api.Apply) { a.Made = a.Made[:2] },
	"fewer spent":   func(a *api.Apply) { a.Spends = a.Spends[:1] },
	"txid":          func(a *api.Apply) { a.Made[1].Point.Tx[9]++ },
	"number":        func(a *api.Apply) { a.Made[1].Point.N++ },
	"made":          func(a *api.Apply) { a.Made[2].Made++ },
	"value":         func(a *api.Apply) { a.Made[2].Value++ },
	"script":        func(a *api.Apply) { a.Made[2].Script[0]++ },
	"script length": func(a *api.Apply) { a.Made[2].Script = nil },
	"base":          func(a *api.Apply) { a.Made[0].Base = !a.Made[0].Base },
	"spent":         func(a *api.Apply) { a.Made[0].Spent++ },
	"spender":       func(a *api.Apply) { a.Made[0].Spender[0]++ },
	"spends":        func(a *api.Apply) { a.Spends[1].Point.N++ },
	"spends' txid":  func(a *api.Apply) { a.Spends[1].Spender[0]++ },
	"order":         func(a *api.Apply) { a.Spends[0], a.Spends[1] = a.Spends[1], a.Spends[0] },
}

// P20.2, P20.3
func TestSameAndCopy(t *testing.T) {
	empty, none := changes(3, 2), changes(3, 2)
	empty.Made[0].Script, none.Made[0].Script = []byte{}, nil
	if !coin.Same(empty, none) || !coin.Same(api.Apply{}, api.Apply{Made: []api.Version{}, Spends: []api.Spend{}}) || !coin.SameVersions(nil, []api.Version{}) {
		t.Error("nil and empty ones are equal")
	}
	for name, alter := range alterations {
		a := changes(3, 2)
		c := coin.Copy(a)
		alter(&a)
		if coin.Same(a, changes(3, 2)) || coin.Same(changes(3, 2), a) {
			t.Error("the same, with another", name)
		}
		if !coin.Same(c, changes(3, 2)) {
			t.Error("a copy shares its", name)
		}
		same := slices.Contains([]string{"height", "block", "burnt", "left", "fewer spent", "spends", "spends' txid", "order"}, name)
		if coin.SameVersions(a.Made, c.Made) != same || coin.SameVersions(c.Made, a.Made) != same {
			t.Error("SameVersions", name)
		}
	}
}

// P20.3
func TestNothingIsShared(t *testing.T) {
	b, _ := coin.Encode(changes(3, 2))
	kept := slices.Clone(b)
	a, _ := coin.Decode(b)
	clear(b)
	if !coin.Same(a, changes(3, 2)) {
		t.Error("Decode keeps its argument")
	}
	a.Made[2].Script[0] = 99
	if again, _ := coin.Decode(kept); !coin.Same(again, changes(3, 2)) {
		t.Error("Decode gives memory twice")
	}
}
