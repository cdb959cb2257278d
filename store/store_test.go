package store_test

import (
	"bytes"
	"cmp"
	"math"
	"math/rand"
	"slices"
	"testing"

	"purser/api"
	"purser/coin"
	"purser/store"
)

func point(n int) api.Outpoint { return api.Outpoint{Tx: api.Hash{byte(n), byte(n >> 8)}, N: 1} }

func made(n, height int, value int64, script string) api.Version {
	return api.Version{Point: point(n), Made: height, Value: value, Script: []byte(script)}
}

func spend(n int, by byte) api.Spend { return api.Spend{Point: point(n), Spender: api.Hash{by}} }

func changes(height int, l []api.Version, spends ...api.Spend) api.Apply {
	return api.Apply{Height: height, Block: api.Hash{byte(height), 99}, Made: l, Spends: spends}
}

func apply(t *testing.T, s *store.Store, l ...api.Apply) {
	t.Helper()
	for _, a := range l {
		if e := s.Apply(a); e != api.OK {
			t.Fatal(a.Height, e)
		}
	}
}

// example is the store of the chapter's examples.
func example(t *testing.T) *store.Store {
	t.Helper()
	s := store.New()
	apply(t, s, changes(0, []api.Version{made(1, 0, 50, "s")}))
	apply(t, s, changes(1, []api.Version{made(2, 1, 30, "s"), made(3, 1, 20, "t")}, spend(1, 7)))
	return s
}

func sameRich(a, b []api.Rich) bool {
	return slices.EqualFunc(a, b, func(x, y api.Rich) bool { return x.Balance == y.Balance && bytes.Equal(x.Script, y.Script) })
}

// The chapter's examples.
func TestExamples(t *testing.T) {
	s := example(t)
	for height, want := range []int64{50, 30} {
		if n, e := s.Balance([]byte("s"), height); n != want || e != api.OK {
			t.Error(height, n, e)
		}
	}
	if info, e := s.Info(1); info != (api.Info{Height: 1, Block: api.Hash{1, 99}, Coins: 2, Total: 50}) || e != api.OK {
		t.Error(info, e)
	}
	if v, ok, e := s.Coin(point(1), 0); !ok || e != api.OK || !coin.SameVersions([]api.Version{v}, []api.Version{made(1, 0, 50, "s")}) {
		t.Error(v, ok, e)
	}
	if v, ok, e := s.Coin(point(1), 1); ok || e != api.OK || v.Value != 0 {
		t.Error(v, ok, e)
	}
	if v, ok, e := s.Coin(point(1), 2); ok || e != api.ErrHeight || v.Value != 0 {
		t.Error(v, ok, e)
	}
	if l, e := s.Rich(9, 1); e != api.OK || !sameRich(l, []api.Rich{{Script: []byte("s"), Balance: 30}, {Script: []byte("t"), Balance: 20}}) {
		t.Error(l, e)
	}
	if e := s.Cut(0); e != api.OK {
		t.Error(e)
	}
	if l, e := s.Rich(9, 0); e != api.OK || !sameRich(l, []api.Rich{{Script: []byte("s"), Balance: 50}}) {
		t.Error(l, e)
	}
}

// P22.1
func TestFit(t *testing.T) {
	const most = api.MaxMoney
	for name, c := range map[string]struct {
		a api.Apply
		e api.Errno
	}{
		"nothing":                  {changes(2, nil), api.OK},
		"a height too low":         {changes(1, nil), api.ErrStore},
		"a height too high":        {changes(3, nil), api.ErrStore},
		"not valid":                {changes(2, []api.Version{made(5, 1, 1, "")}), api.ErrStore},
		"a negative value":         {changes(2, []api.Version{made(5, 2, -1, "")}), api.ErrStore},
		"made and there":           {changes(2, []api.Version{made(2, 2, 1, "")}), api.ErrStore},
		"made, there and spent":    {changes(2, []api.Version{made(2, 2, 1, "")}, spend(2, 1)), api.ErrStore},
		"made again":               {changes(2, []api.Version{made(1, 2, 1, "")}), api.OK},
		"made and spent":           {changes(2, []api.Version{made(5, 2, 1, "")}, spend(5, 1)), api.OK},
		"spent":                    {changes(2, nil, spend(2, 1), spend(3, 2)), api.OK},
		"spent already":            {changes(2, nil, spend(1, 1)), api.ErrStore},
		"not there":                {changes(2, nil, spend(9, 1)), api.ErrStore},
		"one of two not there":     {changes(2, []api.Version{made(5, 2, 1, "")}, spend(2, 1), spend(9, 1)), api.ErrStore},
		"spent twice":              {changes(2, nil, spend(2, 1), spend(2, 2)), api.ErrStore},
		"greatest sum":             {changes(2, []api.Version{made(5, 2, most-50, "")}), api.OK},
		"greater sum":              {changes(2, []api.Version{made(5, 2, most-49, "")}), api.ErrStore},
		"spent of it":              {changes(2, []api.Version{made(5, 2, most-20, "")}, spend(2, 1)), api.OK},
		"too little spent of it":   {changes(2, []api.Version{made(5, 2, most-19, "")}, spend(2, 1)), api.ErrStore},
		"great ones spent at once": {changes(2, []api.Version{made(5, 2, most, ""), made(6, 2, most, "")}, spend(5, 1), spend(6, 1)), api.OK},
		"most burnt":               {api.Apply{Height: 2, Burnt: most}, api.OK},
		"most left":                {api.Apply{Height: 2, Left: most}, api.OK},
	} {
		s := example(t)
		if e := s.Apply(c.a); e != c.e {
			t.Error(name, e)
		}
		if c.e != api.OK && (s.Tip() != 1 || !coin.SameVersions(s.Every(), example(t).Every())) {
			t.Error(name, "changed something")
		}
		if c.e == api.OK && s.Tip() != 2 {
			t.Error(name, s.Tip())
		}
	}
	s := store.New()
	for name, a := range map[string]api.Apply{
		"height 1": changes(1, nil), "height -1": changes(-1, nil), "spent": changes(0, nil, spend(1, 1)),
		"made and spent at height 0": changes(0, []api.Version{made(1, 0, 5, "")}, spend(1, 1)),
	} {
		if e := s.Apply(a); e != api.ErrStore || s.Tip() != -1 {
			t.Error(name, e)
		}
	}
	full := api.Apply{}
	for n := range 5000 {
		full.Made = append(full.Made, made(n, 0, most, ""))
	}
	if e := s.Apply(full); e != api.ErrStore {
		t.Error("a sum beyond 63 bits", e)
	}
	apply(t, s, api.Apply{Burnt: most, Left: most})
	for name, a := range map[string]api.Apply{"more burnt": {Height: 1, Burnt: 1}, "more left": {Height: 1, Left: 1}} {
		if e := s.Apply(a); e != api.ErrStore || s.Tip() != 0 {
			t.Error(name, e)
		}
	}
}

// P22.1, P22.2
func TestMadeAndSpentAtOnce(t *testing.T) {
	s := example(t)
	apply(t, s, changes(2, []api.Version{made(5, 2, 9, "u")}, spend(5, 3)), changes(3, []api.Version{made(5, 3, 8, "v")}))
	if _, ok, _ := s.Coin(point(5), 2); ok {
		t.Error("exists where it was spent")
	}
	if v, ok, _ := s.Coin(point(5), 3); !ok || v.Value != 8 {
		t.Error(v, ok)
	}
	l, e := s.Trace(point(5), 3)
	first := made(5, 2, 9, "u")
	first.Spent, first.Spender = 2, api.Hash{3}
	if e != api.OK || !coin.SameVersions(l, []api.Version{first, made(5, 3, 8, "v")}) {
		t.Error(l, e)
	}
	if l, e := s.Trace(point(5), 2); e != api.OK || !coin.SameVersions(l, []api.Version{first}) {
		t.Error(l, e)
	}
	if l, e := s.Trace(point(5), 1); e != api.OK || len(l) != 0 {
		t.Error(l, e)
	}
	if l, _ := s.Rich(9, 2); len(l) != 2 {
		t.Error(l)
	}
	if e := s.Cut(1); e != api.OK || !coin.SameVersions(s.Every(), example(t).Every()) {
		t.Error(e, s.Every())
	}
}

// P22.2: versions may have no value
func TestNoValue(t *testing.T) {
	s := store.New()
	apply(t, s, changes(0, []api.Version{made(1, 0, 0, "z"), made(2, 0, 0, "z"), made(3, 0, 5, "a"), made(4, 0, 0, "")}))
	apply(t, s, changes(1, nil, spend(1, 1)), changes(2, nil, spend(2, 1), spend(3, 1)))
	z, a, none := api.Rich{Script: []byte("z")}, api.Rich{Script: []byte("a"), Balance: 5}, api.Rich{}
	for height, want := range [][]api.Rich{{a, none, z}, {a, none, z}, {none}} {
		if l, e := s.Rich(9, height); e != api.OK || !sameRich(l, want) {
			t.Error(height, l, e)
		}
	}
}

// P22.2
func TestRich(t *testing.T) {
	s := store.New()
	apply(t, s, changes(0, []api.Version{made(1, 0, 5, "b"), made(2, 0, 5, "a"), made(3, 0, 5, "ab"), made(4, 0, 3, "c"), made(5, 0, 4, "c"), made(6, 0, 1, "d")}))
	want := []api.Rich{{Script: []byte("c"), Balance: 7}, {Script: []byte("a"), Balance: 5}, {Script: []byte("ab"), Balance: 5}, {Script: []byte("b"), Balance: 5}, {Script: []byte("d"), Balance: 1}}
	for k := range 8 {
		if l, e := s.Rich(k, 0); e != api.OK || !sameRich(l, want[:min(k, 5)]) {
			t.Error(k, l, e)
		}
	}
	for _, k := range []int{-1, math.MinInt} {
		if l, e := s.Rich(k, 0); len(l) != 0 || e != api.OK {
			t.Error(k, l, e)
		}
	}
	if l, e := s.Rich(math.MaxInt, 0); len(l) != 5 || e != api.OK {
		t.Error(l, e)
	}
}

// P22.1
func TestCut(t *testing.T) {
	s := example(t)
	for _, height := range []int{-2, 2, math.MaxInt, math.MinInt} {
		if e := s.Cut(height); e != api.ErrHeight || s.Tip() != 1 {
			t.Error(height, e)
		}
	}
	if e := s.Cut(1); e != api.OK || s.Tip() != 1 || len(s.Every()) != 3 {
		t.Error(e, s.Tip())
	}
	if e := s.Cut(0); e != api.OK || s.Tip() != 0 || !coin.SameVersions(s.Every(), []api.Version{made(1, 0, 50, "s")}) {
		t.Error(e, s.Every())
	}
	if e := s.Cut(-1); e != api.OK || s.Tip() != -1 || len(s.Every()) != 0 {
		t.Error(e, s.Every())
	}
	if e := s.Cut(-1); e != api.OK {
		t.Error(e)
	}
	if e := s.Cut(0); e != api.ErrHeight {
		t.Error(e)
	}
	apply(t, s, changes(0, []api.Version{made(2, 0, 1, "x")}))
	if s.Tip() != 0 || len(s.Every()) != 1 {
		t.Error(s.Every())
	}
}

// P22.2
func TestHeights(t *testing.T) {
	s := example(t)
	for _, height := range []int{-1, 2, math.MaxInt, math.MinInt} {
		askAll(t, s, height, api.ErrHeight)
	}
	askAll(t, store.New(), 0, api.ErrHeight)
	askAll(t, store.New(), -1, api.ErrHeight)
	for height := range 2 {
		if h, e := s.Block(height); h != (api.Hash{byte(height), 99}) || e != api.OK {
			t.Error(h, e)
		}
	}
}

// askAll fails unless all queries at a height return the error, and nothing beside it.
func askAll(t *testing.T, s *store.Store, height int, want api.Errno) {
	t.Helper()
	h, e := s.Block(height)
	v, ok, f := s.Coin(point(1), height)
	info, g := s.Info(height)
	balance, i := s.Balance([]byte("s"), height)
	rich, j := s.Rich(9, height)
	trace, k := s.Trace(point(1), height)
	for n, e := range []api.Errno{e, f, g, i, j, k} {
		if e != want {
			t.Error("query", n, "at", height, e)
		}
	}
	if h != (api.Hash{}) || ok || v.Value != 0 || info != (api.Info{}) || balance != 0 || rich != nil || trace != nil {
		t.Error("something beside an error")
	}
}

func TestNoStore(t *testing.T) {
	for _, s := range []*store.Store{nil, {}} {
		if s.Tip() != -1 || s.Every() != nil || s.Copy() != nil || s.Apply(api.Apply{Height: -1}) != api.ErrNil || s.Cut(-5) != api.ErrNil {
			t.Error("no store has something")
		}
		askAll(t, s, 0, api.ErrNil)
		askAll(t, s, -1, api.ErrNil)
	}
	if s := store.New(); s.Tip() != -1 || len(s.Every()) != 0 || s.Copy().Tip() != -1 {
		t.Error("a new store has something")
	}
}

// state is all that a model knows at a height.
type state struct {
	coins       map[api.Outpoint]api.Version
	burnt, left int64
}

// check fails unless the store answers at a height as the state.
func check(t *testing.T, s *store.Store, height int, want state) {
	t.Helper()
	info, e := s.Info(height)
	total, balances := int64(0), map[string]int64{}
	for p, v := range want.coins {
		total += v.Value
		balances[string(v.Script)] += v.Value
		if got, ok, e := s.Coin(p, height); !ok || e != api.OK || !coin.SameVersions([]api.Version{got}, []api.Version{v}) {
			t.Fatal("Coin", height, got, ok, e)
		}
	}
	if e != api.OK || info != (api.Info{Height: height, Block: api.Hash{byte(height), 99}, Coins: len(want.coins), Total: total, Burnt: want.burnt, Left: want.left}) {
		t.Fatal("Info", height, info, e)
	}
	var rich []api.Rich
	sum := int64(0)
	for script, balance := range balances {
		rich = append(rich, api.Rich{Script: []byte(script), Balance: balance})
		if n, e := s.Balance([]byte(script), height); n != balance || e != api.OK {
			t.Fatal("Balance", height, script, n, e)
		}
		sum += balance
	}
	slices.SortFunc(rich, func(a, b api.Rich) int {
		return cmp.Or(cmp.Compare(b.Balance, a.Balance), bytes.Compare(a.Script, b.Script))
	})
	if l, e := s.Rich(1000, height); e != api.OK || !sameRich(l, rich) || sum != info.Total {
		t.Fatal("Rich", height, l, rich, e)
	}
}

// P22.2, P22.5
func TestAgainstAModel(t *testing.T) {
	r := rand.New(rand.NewSource(1))
	for range 20 {
		s, states, stores := store.New(), []state{{coins: map[api.Outpoint]api.Version{}}}, []*store.Store{store.New()}
		for range 40 {
			height := s.Tip() + 1
			if height > 0 && r.Intn(5) == 0 {
				to := r.Intn(height+1) - 1
				if e := s.Cut(to); e != api.OK {
					t.Fatal(e)
				}
				states, stores = states[:to+2], stores[:to+2]
				if !coin.SameVersions(s.Every(), stores[to+1].Every()) {
					t.Fatal("Cut", to)
				}
				continue
			}
			before := states[len(states)-1]
			next := state{coins: map[api.Outpoint]api.Version{}, burnt: before.burnt + r.Int63n(9), left: before.left + r.Int63n(9)}
			a := api.Apply{Height: height, Block: api.Hash{byte(height), 99}, Burnt: next.burnt - before.burnt, Left: next.left - before.left}
			for p, v := range before.coins {
				next.coins[p] = v
			}
			for _, n := range r.Perm(30)[:r.Intn(6)] {
				if _, there := before.coins[point(n)]; !there {
					v := made(n, height, r.Int63n(4), string(rune('a'+r.Intn(4))))
					a.Made, next.coins[v.Point] = append(a.Made, v), v
				}
			}
			for n := range 30 {
				if _, there := next.coins[point(n)]; there && r.Intn(3) == 0 && height > 0 {
					delete(next.coins, point(n))
					a.Spends = append(a.Spends, spend(n, byte(r.Intn(200))))
				}
			}
			apply(t, s, a)
			states, stores = append(states, next), append(stores, s.Copy())
			for at := range s.Tip() + 1 {
				check(t, s, at, states[at+1])
			}
		}
		for i, old := range stores {
			for at := range old.Tip() + 1 {
				check(t, old, at, states[at+1])
			}
			if old.Tip() != i-1 {
				t.Fatal("a copy is not independent")
			}
		}
	}
}

// P22.2
func TestTrace(t *testing.T) {
	s := store.New()
	apply(t, s, changes(0, nil), changes(1, []api.Version{made(1, 1, 5, "a")}), changes(2, nil), changes(3, nil, spend(1, 8)), changes(4, []api.Version{made(1, 4, 6, "b")}))
	unspent, spent, again := made(1, 1, 5, "a"), made(1, 1, 5, "a"), made(1, 4, 6, "b")
	spent.Spent, spent.Spender = 3, api.Hash{8}
	for height, want := range [][]api.Version{nil, {unspent}, {unspent}, {spent}, {spent, again}} {
		if l, e := s.Trace(point(1), height); e != api.OK || !coin.SameVersions(l, want) {
			t.Error(height, l, e)
		}
		if l, e := s.Trace(point(2), height); e != api.OK || len(l) != 0 {
			t.Error(height, l, e)
		}
	}
	if !coin.SameVersions(s.Every(), []api.Version{spent, again}) {
		t.Error(s.Every())
	}
}

// P22.4
func TestNothingIsShared(t *testing.T) {
	s := example(t)
	a := changes(2, []api.Version{made(5, 2, 9, "uvw"), made(6, 2, 9, "xyz")}, spend(5, 1))
	apply(t, s, a)
	a.Made[0].Script[0], a.Made[1].Script[0] = '!', '!'
	a.Spends[0].Point = point(6)
	v, _, _ := s.Coin(point(6), 2)
	v.Script[0] = '!'
	rich, _ := s.Rich(9, 2)
	rich[0].Script[0] = '!'
	trace, _ := s.Trace(point(5), 2)
	trace[0].Script[0] = '!'
	s.Every()[0].Script[0] = '!'
	l, _ := s.Rich(9, 2)
	if !sameRich(l, []api.Rich{{Script: []byte("s"), Balance: 30}, {Script: []byte("t"), Balance: 20}, {Script: []byte("xyz"), Balance: 9}}) {
		t.Error(l)
	}
	if trace, _ := s.Trace(point(5), 2); string(trace[0].Script) != "uvw" {
		t.Error(trace)
	}
}
