package store

import (
	"bytes"
	"cmp"
	"slices"

	"purser/api"
)

// Block returns the hash of the block at a height.
func (s *Store) Block(height int) (api.Hash, api.Errno) {
	info, e := s.Info(height)
	return info.Block, e
}

// Info returns what there is at a height.
func (s *Store) Info(height int) (api.Info, api.Errno) {
	if e := s.has(height); e != api.OK {
		return api.Info{}, e
	}
	return s.levels[height].info, api.OK
}

// Coin returns the version of p that exists at a height, and whether there is one.
func (s *Store) Coin(p api.Outpoint, height int) (api.Version, bool, api.Errno) {
	if e := s.has(height); e != api.OK {
		return api.Version{}, false, e
	}
	v, ok := s.versions.At(p, height)
	return asOf(v, height), ok, api.OK
}

// Balance returns the sum of the values that a script has at a height.
func (s *Store) Balance(script []byte, height int) (int64, api.Errno) {
	if e := s.has(height); e != api.OK {
		return 0, e
	}
	balance := int64(0)
	for _, v := range s.versions.Of(script, height) {
		balance += v.Value
	}
	return balance, api.OK
}

// Rich returns the k scripts that have most at a height.
func (s *Store) Rich(k, height int) ([]api.Rich, api.Errno) {
	if e := s.has(height); e != api.OK {
		return nil, e
	}
	var l []api.Rich
	for script, h := range s.holdings(height) {
		l = append(l, api.Rich{Script: []byte(script), Balance: h.balance})
	}
	slices.SortFunc(l, richer)
	return l[:min(max(k, 0), len(l))], api.OK
}

// holding is how many versions a script has, and their sum.
type holding struct {
	coins   int
	balance int64
}

// holdings returns what each script has at a height. A balance of zero is deleted with the last version, not before: versions may have no value.
func (s *Store) holdings(height int) map[string]holding {
	l := map[string]holding{}
	for at := range height + 1 {
		for _, v := range s.levels[at].made {
			h := l[string(v.Script)]
			l[string(v.Script)] = holding{h.coins + 1, h.balance + v.Value}
		}
		for _, v := range s.levels[at].spent {
			h := l[string(v.Script)]
			if l[string(v.Script)] = (holding{h.coins - 1, h.balance - v.Value}); h.coins == 1 {
				delete(l, string(v.Script))
			}
		}
	}
	return l
}

func richer(a, b api.Rich) int {
	if c := cmp.Compare(b.Balance, a.Balance); c != 0 {
		return c
	}
	return bytes.Compare(a.Script, b.Script)
}

// Trace returns all versions of p that were made up to a height, in order.
func (s *Store) Trace(p api.Outpoint, height int) ([]api.Version, api.Errno) {
	if e := s.has(height); e != api.OK {
		return nil, e
	}
	var l []api.Version
	for _, v := range s.versions.History(p) {
		if v.Made <= height {
			l = append(l, asOf(v, height))
		}
	}
	return l, api.OK
}

// has returns an error unless there is a block at that height.
func (s *Store) has(height int) api.Errno {
	if !s.exists() {
		return api.ErrNil
	}
	if height < 0 || height > s.Tip() {
		return api.ErrHeight
	}
	return api.OK
}

// asOf returns v as it was at a height at which it was made already.
func asOf(v api.Version, height int) api.Version {
	if v.Spent > height {
		v.Spent, v.Spender = 0, api.Hash{}
	}
	return v
}
