package log

import (
	"iter"

	"purser/api"
	"purser/disk"
	"purser/manifest"
	"purser/segment"
)

const mostSize = 1 << 25

// Open returns the log of d, whose segments are closed at that size.
func Open(d *disk.Disk, size int) (*Log, api.Errno) {
	if d == nil {
		return nil, api.ErrNil
	}
	if size < api.LeastSegment || size > mostSize {
		return nil, api.ErrLog
	}
	m, e := manifest.Load(d)
	if e == api.ErrNone {
		m, e = begin(d)
	}
	if e != api.OK {
		return nil, e
	}
	l := &Log{disk: d, size: size, manifest: m}
	e = inOrder(l.readClosed, l.readOpen)
	if e != api.OK {
		return nil, e
	}
	return l, api.OK
}

// begin makes a log without groups.
func begin(d *disk.Disk) (api.Manifest, api.Errno) {
	m := api.Manifest{Open: 1, Next: 1}
	return m, inOrder(
		func() api.Errno { return createAnew(d, segment.Name(m.Open)) },
		func() api.Errno { return manifest.Save(d, m) },
	)
}

// readClosed reads the groups of the closed segments.
func (l *Log) readClosed() api.Errno {
	e := api.OK
read:
	for p, b := range l.closed() {
		groups, end := segment.Read(b, p.First)
		if len(b) != p.Bytes || end != p.Bytes || len(groups) != p.Groups {
			e = api.ErrLog
			break read
		}
		l.groups = append(l.groups, groups...)
	}
	return e
}

// closed yields the closed segments with their bytes; a file that is missing has none.
func (l *Log) closed() iter.Seq2[api.Part, []byte] {
	return func(yield func(api.Part, []byte) bool) {
		for _, p := range l.manifest.Parts {
			b, _ := content(l.disk, segment.Name(p.Segment))
			if !yield(p, b) {
				return
			}
		}
	}
}

// readOpen reads the groups of the open segment, and removes what is behind them.
func (l *Log) readOpen() api.Errno {
	name := segment.Name(l.manifest.Open)
	b, e := content(l.disk, name)
	if e == api.ErrNone {
		return l.disk.Create(name)
	}
	if e != api.OK {
		return e
	}
	groups, end := segment.Read(b, l.manifest.Next)
	l.groups = append(l.groups, groups...)
	l.bytes = end
	if end == len(b) {
		return api.OK
	}
	return inOrder(
		func() api.Errno { return l.disk.Truncate(name, end) },
		func() api.Errno { return l.disk.Sync(name) },
	)
}

// content returns all bytes of a file.
func content(d *disk.Disk, name string) ([]byte, api.Errno) {
	n, e := d.Size(name)
	if e != api.OK {
		return nil, e
	}
	return d.Read(name, 0, n)
}
