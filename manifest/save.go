package manifest

import (
	"iter"

	"purser/api"
	"purser/disk"
)

const newFile = api.ManifestFor + ".new"

// Save replaces the manifest on d.
func Save(d *disk.Disk, m api.Manifest) api.Errno {
	if d == nil {
		return api.ErrNil
	}
	b, e := Encode(m)
	if e != api.OK {
		return e
	}
save:
	for step := range steps(d, b) {
		if e = step(); e != api.OK {
			break save
		}
	}
	if e == api.ErrFull {
		d.Remove(newFile)
	}
	return e
}

// steps yields the operations that replace the manifest's file by one with the bytes b.
func steps(d *disk.Disk, b []byte) iter.Seq[func() api.Errno] {
	return func(yield func(func() api.Errno) bool) {
		_ = yield(func() api.Errno { return removeOld(d) }) &&
			yield(func() api.Errno { return d.Create(newFile) }) &&
			yield(func() api.Errno { return d.Append(newFile, b) }) &&
			yield(func() api.Errno { return d.Sync(newFile) }) &&
			yield(func() api.Errno { return d.Rename(newFile, api.ManifestFor) })
	}
}

// removeOld removes what an earlier Save may have left.
func removeOld(d *disk.Disk) api.Errno {
	if e := d.Remove(newFile); e != api.ErrNone {
		return e
	}
	return api.OK
}

// Load returns the manifest on d.
func Load(d *disk.Disk) (api.Manifest, api.Errno) {
	n, e := d.Size(api.ManifestFor)
	if e != api.OK {
		return api.Manifest{}, e
	}
	b, e := d.Read(api.ManifestFor, 0, n)
	if e != api.OK {
		return api.Manifest{}, e
	}
	return Decode(b)
}
