package rules

import (
	"purser/api"
	"purser/store"
)

// overlay is what was added to something, and taken from it or from what was added.
type overlay[K comparable, V any] struct {
	added map[K]V
	taken map[K]struct{}
}

func newOverlay[K comparable, V any]() overlay[K, V] {
	return overlay[K, V]{added: map[K]V{}, taken: map[K]struct{}{}}
}

func (o overlay[K, V]) add(k K, v V) { o.added[k] = v }

func (o overlay[K, V]) take(k K) { o.taken[k] = struct{}{} }

func (o overlay[K, V]) wasTaken(k K) bool {
	_, ok := o.taken[k]
	return ok
}

// coins is what a transaction may spend.
type coins interface {
	// coin returns the version of p, and whether there is one.
	coin(p api.Outpoint) (api.Version, bool)
	// used reports whether there is a version of p, or there was one ahead of this transaction.
	used(p api.Outpoint) bool
}

// view is the coins of a store at its tip, and what transactions of a block did to them.
type view struct {
	overlay[api.Outpoint, api.Version]
	store *store.Store
}

func (v view) coin(p api.Outpoint) (api.Version, bool) {
	if v.wasTaken(p) {
		return api.Version{}, false
	}
	if own, ok := v.added[p]; ok {
		return own, true
	}
	// A store without blocks has no coins either: its error goes with false.
	old, ok, _ := v.store.Coin(p, v.store.Tip())
	return old, ok
}

func (v view) used(p api.Outpoint) bool {
	_, there := v.coin(p)
	return there || v.wasTaken(p)
}
