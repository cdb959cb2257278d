package index

import (
	"bytes"
	"iter"

	"purser/api"
	"purser/coin"
)

// At returns the version of p that exists at that height, the latest one, and whether there is one.
func (x *Index) At(p api.Outpoint, height int) (api.Version, bool) {
	if !x.exists() {
		return api.Version{}, false
	}
	var last *api.Version
nextVersion:
	for v := range x.of(p) {
		if !coin.There(*v, height) {
			continue nextVersion
		}
		last = v
	}
	if last == nil {
		return api.Version{}, false
	}
	return copied(*last), true
}

// History returns all versions of p, in order.
func (x *Index) History(p api.Outpoint) []api.Version {
	if !x.exists() {
		return nil
	}
	return collected(x.of(p))
}

// All returns the versions that exist at that height, in order.
func (x *Index) All(height int) []api.Version {
	if !x.exists() {
		return nil
	}
	return collected(there(x.points.all(), height))
}

// Of returns the versions with that script that exist at that height, in order.
func (x *Index) Of(script []byte, height int) []api.Version {
	if !x.exists() {
		return nil
	}
	return collected(there(x.with(script), height))
}

// Scripts returns the distinct scripts of the versions that exist at that height, in order.
func (x *Index) Scripts(height int) [][]byte {
	if !x.exists() {
		return nil
	}
	var l [][]byte
nextVersion:
	for v := range there(x.scripts.all(), height) {
		if n := len(l); n > 0 && bytes.Equal(l[n-1], v.Script) {
			continue nextVersion
		}
		l = append(l, copied(*v).Script)
	}
	return l
}

// Every returns all versions, in order.
func (x *Index) Every() []api.Version {
	if !x.exists() {
		return nil
	}
	return collected(x.points.all())
}

// with yields the versions with that script, in order.
func (x *Index) with(script []byte) iter.Seq[*api.Version] {
	return func(yield func(*api.Version) bool) {
		for v := range x.scripts.from(&api.Version{Script: script}) {
			if !bytes.Equal(v.Script, script) || !yield(v) {
				return
			}
		}
	}
}

// there yields those versions that exist at that height.
func there(l iter.Seq[*api.Version], height int) iter.Seq[*api.Version] {
	return func(yield func(*api.Version) bool) {
	nextVersion:
		for v := range l {
			if !coin.There(*v, height) {
				continue nextVersion
			}
			if !yield(v) {
				return
			}
		}
	}
}

// collected returns copies of versions.
func collected(l iter.Seq[*api.Version]) []api.Version {
	var versions []api.Version
	for v := range l {
		versions = append(versions, copied(*v))
	}
	return versions
}
