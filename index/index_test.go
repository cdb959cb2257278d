package index_test

import (
	"bytes"
	"math"
	"math/rand"
	"slices"
	"testing"

	"purser/api"
	"purser/coin"
	"purser/index"
)

func point(n int) api.Outpoint { return api.Outpoint{Tx: api.Hash{byte(n / 4)}, N: uint32(n % 4)} }

func version(n, made int, script string) api.Version {
	return api.Version{Point: point(n), Made: made, Value: int64(10*n + made), Script: []byte(script), Base: n%2 == 0}
}

func ended(v api.Version, spent int, by api.Hash) api.Version {
	v.Spent, v.Spender = spent, by
	return v
}

// model is a set of versions in any order, asked by search.
type model []api.Version

func (m model) place(p api.Outpoint, made int) int {
	return slices.IndexFunc(m, func(v api.Version) bool { return v.Point == p && v.Made == made })
}

func (m model) pick(ok func(v api.Version) bool) []api.Version {
	var l []api.Version
	for _, v := range m {
		if ok(v) {
			l = append(l, v)
		}
	}
	slices.SortFunc(l, coin.Compare)
	return l
}

func exists(v api.Version, height int) bool {
	return v.Made <= height && (v.Spent == 0 || height < v.Spent)
}

// agree fails unless the index answers as the model.
func agree(t *testing.T, x *index.Index, m model) {
	t.Helper()
	if x.Len() != len(m) || !coin.SameVersions(x.Every(), m.pick(func(api.Version) bool { return true })) {
		t.Fatal("Every", x.Len(), len(m))
	}
	for height := -1; height < 9; height++ {
		all := m.pick(func(v api.Version) bool { return exists(v, height) })
		if !coin.SameVersions(x.All(height), all) {
			t.Fatal("All", height)
		}
		var scripts [][]byte
		for _, v := range all {
			scripts = append(scripts, v.Script)
		}
		slices.SortFunc(scripts, bytes.Compare)
		scripts = slices.CompactFunc(scripts, bytes.Equal)
		if got := x.Scripts(height); !slices.EqualFunc(got, scripts, bytes.Equal) {
			t.Fatal("Scripts", height, got, scripts)
		}
		together := 0
		for _, s := range []string{"", "a", "aa", "ab", "b", "none"} {
			of := m.pick(func(v api.Version) bool { return exists(v, height) && string(v.Script) == s })
			if !coin.SameVersions(x.Of([]byte(s), height), of) {
				t.Fatal("Of", s, height)
			}
			together += len(of)
		}
		if together != len(all) {
			t.Fatal("all scripts together", together, len(all))
		}
		for n := range 12 {
			of := m.pick(func(v api.Version) bool { return exists(v, height) && v.Point == point(n) })
			v, ok := x.At(point(n), height)
			want := api.Version{}
			if len(of) > 0 {
				want = of[len(of)-1]
			}
			if ok != (len(of) > 0) || !coin.SameVersions([]api.Version{v}, []api.Version{want}) {
				t.Fatal("At", n, height, v, ok)
			}
		}
	}
	for n := range 12 {
		if !coin.SameVersions(x.History(point(n)), m.pick(func(v api.Version) bool { return v.Point == point(n) })) {
			t.Fatal("History", n)
		}
	}
}

// The chapter's examples.
func TestExamples(t *testing.T) {
	x := index.New()
	first, second := version(1, 3, "s"), version(1, 5, "s")
	if e := x.Put(first); e != api.OK {
		t.Error(e)
	}
	if e := x.Put(first); e != api.ErrIndex {
		t.Error(e)
	}
	if e := x.Put(second); e != api.OK {
		t.Error(e)
	}
	if e := x.End(point(1), 3, 4, api.Hash{7}); e != api.OK {
		t.Error(e)
	}
	if v, ok := x.At(point(1), 3); !ok || !coin.SameVersions([]api.Version{v}, []api.Version{ended(first, 4, api.Hash{7})}) {
		t.Error(v, ok)
	}
	if v, ok := x.At(point(1), 4); ok || !coin.SameVersions([]api.Version{v}, []api.Version{{}}) {
		t.Error(v, ok)
	}
	if v, ok := x.At(point(1), 5); !ok || v.Made != 5 {
		t.Error(v, ok)
	}
	if e := x.Back(point(1), 5); e != api.ErrIndex {
		t.Error(e)
	}
	if e := x.Back(point(1), 3); e != api.OK {
		t.Error(e)
	}
	if !coin.SameVersions(x.Of([]byte("s"), 9), []api.Version{first, second}) {
		t.Error(x.Of([]byte("s"), 9))
	}
}

// P21.1
func TestPut(t *testing.T) {
	for name, c := range map[string]struct {
		v api.Version
		e api.Errno
	}{
		"unspent":          {api.Version{Made: 4}, api.OK},
		"at height 0":      {api.Version{}, api.OK},
		"-1":               {api.Version{Made: -1}, api.ErrIndex},
		"least":            {api.Version{Made: math.MinInt}, api.ErrIndex},
		"spent later":      {api.Version{Made: 4, Spent: 5}, api.OK},
		"spent then":       {api.Version{Made: 4, Spent: 4}, api.OK},
		"spent earlier":    {api.Version{Made: 4, Spent: 3}, api.ErrIndex},
		"spent at -1":      {api.Version{Made: 0, Spent: -1}, api.ErrIndex},
		"spender alone":    {api.Version{Made: 4, Spender: api.Hash{1}}, api.OK},
		"a negative value": {api.Version{Value: -5}, api.OK},
		"a long script":    {api.Version{Script: make([]byte, 5000)}, api.OK},
	} {
		x := index.New()
		if e := x.Put(c.v); e != c.e || (x.Len() == 1) != (e == api.OK) {
			t.Error(name, e, x.Len())
		}
		if c.e == api.OK && !coin.SameVersions(x.Every(), []api.Version{c.v}) {
			t.Error(name, x.Every())
		}
	}
	x := index.New()
	x.Put(version(1, 3, "a"))
	if e := x.Put(version(1, 3, "b")); e != api.ErrIndex {
		t.Error("another script", e)
	}
	if e := x.Put(ended(version(1, 3, "a"), 4, api.Hash{})); e != api.ErrIndex {
		t.Error("spent", e)
	}
	agree(t, x, model{version(1, 3, "a")})
}

// P21.1
func TestEndBackAndDrop(t *testing.T) {
	x := index.New()
	x.Put(version(1, 3, "a"))
	x.Put(version(2, 0, "b"))
	m := model{version(1, 3, "a"), version(2, 0, "b")}
	for name, e := range map[string]api.Errno{
		"End too early": x.End(point(1), 3, 2, api.Hash{}), "End at 0": x.End(point(2), 0, 0, api.Hash{}), "End at -1": x.End(point(2), 0, -1, api.Hash{}),
		"End of none": x.End(point(1), 4, 5, api.Hash{}), "End of another": x.End(point(3), 3, 5, api.Hash{}),
		"Back of an unspent one": x.Back(point(1), 3), "Back of none": x.Back(point(1), 2),
		"Drop of none": x.Drop(point(1), 2), "Drop of another": x.Drop(point(3), 3),
		"End at -9": x.End(point(9), -9, 5, api.Hash{}),
	} {
		if e != api.ErrIndex {
			t.Error(name, e)
		}
	}
	agree(t, x, m)
	if e := x.End(point(1), 3, 3, api.Hash{5}); e != api.OK {
		t.Error("in its own block", e)
	}
	if e := x.End(point(2), 0, 1, api.Hash{6}); e != api.OK {
		t.Error(e)
	}
	agree(t, x, model{ended(m[0], 3, api.Hash{5}), ended(m[1], 1, api.Hash{6})})
	if e := x.End(point(1), 3, 4, api.Hash{5}); e != api.ErrIndex {
		t.Error("spent already", e)
	}
	if x.Back(point(1), 3) != api.OK || x.Back(point(2), 0) != api.OK {
		t.Error("Back")
	}
	agree(t, x, m)
	if e := x.Drop(point(1), 3); e != api.OK {
		t.Error(e)
	}
	agree(t, x, m[1:])
	x.End(point(2), 0, 7, api.Hash{})
	if e := x.Drop(point(2), 0); e != api.OK {
		t.Error("a spent one is dropped, too", e)
	}
	agree(t, x, nil)
}

// P21.2, P21.4
func TestAgainstAModel(t *testing.T) {
	r := rand.New(rand.NewSource(1))
	for range 30 {
		x, m := index.New(), model{}
		for range 60 {
			n, made, spent, by := r.Intn(12), r.Intn(8), r.Intn(9), api.Hash{byte(r.Intn(256))}
			place := m.place(point(n), made)
			want := api.OK
			var e api.Errno
			switch r.Intn(6) {
			default:
				v := version(n, made, []string{"", "a", "aa", "ab", "b"}[r.Intn(5)])
				if r.Intn(4) == 0 {
					v = ended(v, spent, by)
				}
				if place >= 0 || v.Spent != 0 && v.Spent < v.Made {
					want = api.ErrIndex
				} else {
					m = append(m, v)
				}
				e = x.Put(v)
			case 0, 1:
				if place < 0 || m[place].Spent != 0 || spent < 1 || spent < made {
					want = api.ErrIndex
				} else {
					m[place] = ended(m[place], spent, by)
				}
				e = x.End(point(n), made, spent, by)
			case 2:
				if place < 0 || m[place].Spent == 0 {
					want = api.ErrIndex
				} else {
					m[place] = ended(m[place], 0, api.Hash{})
				}
				e = x.Back(point(n), made)
			case 3:
				if place < 0 {
					want = api.ErrIndex
				} else {
					m = slices.Delete(m, place, place+1)
				}
				e = x.Drop(point(n), made)
			}
			if e != want {
				t.Fatal(n, made, e, want)
			}
		}
		agree(t, x, m)
		for i := range m {
			j := r.Intn(len(m))
			m[i], m[j] = m[j], m[i]
		}
		again := index.New()
		for _, v := range m {
			again.Put(v)
		}
		agree(t, again, m)
	}
}

// P21.2: many versions, added in ascending, descending and mixed order, and removed again
func TestMany(t *testing.T) {
	const many = 3000
	for _, step := range []int{1, many - 1, 1009} {
		x := index.New()
		for i := range many {
			n := i * step % many
			if e := x.Put(api.Version{Point: api.Outpoint{N: uint32(n)}, Made: n, Script: []byte{byte(n)}}); e != api.OK {
				t.Fatal(n, e)
			}
		}
		if l := x.Every(); len(l) != many || !slices.IsSortedFunc(l, coin.Compare) || len(x.Of([]byte{7}, many)) != 12 || len(x.Scripts(many)) != 256 || len(x.All(99)) != 100 {
			t.Error(step, len(l))
		}
		for i := range many / 2 {
			n := i * step % many
			if e := x.Drop(api.Outpoint{N: uint32(n)}, n); e != api.OK {
				t.Fatal(n, e)
			}
		}
		for n := range many {
			if l := x.History(api.Outpoint{N: uint32(n)}); len(l) > 1 {
				t.Fatal(n, len(l))
			}
		}
		if x.Len() != many/2 || len(x.Every()) != many/2 {
			t.Error(step, x.Len())
		}
	}
}

// P21.4
func TestUndone(t *testing.T) {
	x, m := index.New(), model{}
	for n := range 12 {
		v := version(n, n%3, []string{"a", "b"}[n%2])
		x.Put(v)
		m = append(m, v)
	}
	x.Put(version(3, 7, "ab"))
	x.Drop(point(3), 7)
	agree(t, x, m)
	x.End(point(4), 1, 5, api.Hash{3})
	x.Back(point(4), 1)
	agree(t, x, m)
}

// P21.2
func TestCopy(t *testing.T) {
	x := index.New()
	x.Put(version(1, 3, "a"))
	x.Put(version(2, 3, "b"))
	c := x.Copy()
	m := model{version(1, 3, "a"), version(2, 3, "b")}
	agree(t, c, m)
	x.End(point(1), 3, 4, api.Hash{})
	x.Drop(point(2), 3)
	x.Put(version(3, 3, "aa"))
	agree(t, c, m)
	c.Drop(point(1), 3)
	agree(t, c, m[1:])
	agree(t, x, model{ended(m[0], 4, api.Hash{}), version(3, 3, "aa")})
}

func TestNoIndex(t *testing.T) {
	for _, x := range []*index.Index{nil, {}} {
		for i, e := range []api.Errno{x.Put(api.Version{Made: -1}), x.End(point(1), 1, 0, api.Hash{}), x.Back(point(1), 1), x.Drop(point(1), 1)} {
			if e != api.ErrNil {
				t.Error(i, e)
			}
		}
		v, ok := x.At(point(1), 1)
		if ok || !coin.SameVersions([]api.Version{v}, []api.Version{{}}) {
			t.Error(v, ok)
		}
		if x.History(point(1)) != nil || x.All(1) != nil || x.Of(nil, 1) != nil || x.Scripts(1) != nil || x.Every() != nil || x.Len() != 0 || x.Copy() != nil {
			t.Error("no index tells something")
		}
	}
	agree(t, index.New(), nil)
}

// P21.3
func TestNothingIsShared(t *testing.T) {
	x, m := index.New(), model{version(1, 3, "ab")}
	v := version(1, 3, "ab")
	x.Put(v)
	v.Script[0] = 'x'
	at, _ := x.At(point(1), 3)
	at.Script[0] = 'x'
	x.History(point(1))[0].Script[0] = 'x'
	x.All(3)[0].Script[0] = 'x'
	x.Of([]byte("ab"), 3)[0].Script[0] = 'x'
	x.Scripts(3)[0][0] = 'x'
	x.Every()[0].Script[0] = 'x'
	x.Copy().Every()[0].Script[0] = 'x'
	agree(t, x, m)
}
