package log_test

import (
	"math"
	"math/rand"
	"slices"
	"strconv"
	"testing"

	"purser/api"
	"purser/disk"
	"purser/log"
	"purser/manifest"
	"purser/record"
	"purser/segment"
)

func newDisk(t *testing.T, room int) *disk.Disk {
	t.Helper()
	d, e := disk.New(room)
	if e != api.OK {
		t.Fatal(e)
	}
	return d
}

func open(t *testing.T, d *disk.Disk, size int) *log.Log {
	t.Helper()
	l, e := log.Open(d, size)
	if e != api.OK {
		t.Fatal(e)
	}
	return l
}

// group returns a group of one record with so many bytes, whose encoding has 38 more.
func group(n int) []api.Record { return []api.Record{{Kind: 1, Payload: make([]byte, n)}} }

// numbered returns the i-th of groups of different forms.
func numbered(i int) []api.Record {
	l := []api.Record{{Kind: i % 200, Payload: []byte("group " + strconv.Itoa(i))}}
	for j := range i % 3 {
		l = append(l, api.Record{Kind: j, Payload: make([]byte, i%40)})
	}
	return l
}

func numberedUpTo(n int) [][]api.Record {
	var l [][]api.Record
	for i := range n {
		l = append(l, numbered(i))
	}
	return l
}

// The chapter's examples.
func TestExamples(t *testing.T) {
	d := newDisk(t, 1000)
	l := open(t, d, 100)
	for range 2 {
		if e := l.Append(group(20)); e != api.OK {
			t.Error(e)
		}
	}
	want := api.Manifest{Parts: []api.Part{{Segment: 1, First: 1, Groups: 2, Bytes: 116}}, Open: 2, Next: 3}
	for range 2 {
		if !manifest.Same(l.Manifest(), want) || l.Count() != 2 || l.Bytes() != 0 {
			t.Error(l.Manifest(), l.Count(), l.Bytes())
		}
		l = open(t, d, 100)
	}
	if e := l.Append(nil); e != api.ErrSegment {
		t.Error(e)
	}
	if l, e := log.Open(d, 63); l != nil || e != api.ErrLog {
		t.Error(e)
	}
}

// P19.1
func TestOpenNew(t *testing.T) {
	for _, size := range []int{63, 0, -1, math.MinInt, 1<<25 + 1, math.MaxInt} {
		if l, e := log.Open(newDisk(t, 1000), size); l != nil || e != api.ErrLog {
			t.Error(size, e)
		}
		if l, e := log.Open(nil, size); l != nil || e != api.ErrNil {
			t.Error(size, e)
		}
	}
	if l, e := log.Open(&disk.Disk{}, 64); l != nil || e != api.ErrNil {
		t.Error(e)
	}
	for _, size := range []int{64, 1 << 25} {
		d := newDisk(t, 1000)
		d.Create("seg.1")
		d.Append("seg.1", []byte("something old"))
		d.Create("other")
		l := open(t, d, size)
		if l.Count() != 0 || len(l.Groups()) != 0 || l.Bytes() != 0 || !manifest.Same(l.Manifest(), api.Manifest{Open: 1, Next: 1}) {
			t.Error("a new log is not empty")
		}
		if n, e := d.Size("seg.1"); n != 0 || e != api.OK || !slices.Equal(d.Names(), []string{"manifest", "other", "seg.1"}) {
			t.Error(n, e, d.Names())
		}
		if m, e := manifest.Load(d); e != api.OK || !manifest.Same(m, l.Manifest()) {
			t.Error(m, e)
		}
	}
	if l, e := log.Open(newDisk(t, 20), 64); l != nil || e != api.ErrFull {
		t.Error(e)
	}
	d := newDisk(t, 1000)
	d.Fall(api.Fall{})
	if l, e := log.Open(d, 64); l != nil || e != api.ErrDown {
		t.Error(e)
	}
}

// written returns a disk whose log has ten groups, in closed segments and an open one.
func written(t *testing.T) *disk.Disk {
	t.Helper()
	d := newDisk(t, 100000)
	l := open(t, d, 150)
	for i := range 10 {
		if e := l.Append(numbered(i)); e != api.OK {
			t.Fatal(e)
		}
	}
	if l.Bytes() == 0 || len(l.Manifest().Parts) < 3 {
		t.Fatal("no closed segments, or no open one", l.Bytes(), l.Manifest())
	}
	return d
}

func replace(t *testing.T, d *disk.Disk, name string, b []byte) {
	t.Helper()
	d.Remove(name)
	if d.Create(name) != api.OK || d.Append(name, b) != api.OK || d.Sync(name) != api.OK {
		t.Fatal(name)
	}
}

// P19.1
func TestOpenAgain(t *testing.T) {
	l := open(t, written(t), 64)
	if l.Count() != 10 || !segment.Same(l.Groups(), numberedUpTo(10)) {
		t.Error(l.Count())
	}
	m := l.Manifest()
	openName, closedName := segment.Name(m.Open), segment.Name(m.Parts[1].Segment)
	before := int(m.Next) - 1
	for name, c := range map[string]struct {
		do   func(d *disk.Disk)
		e    api.Errno
		want int
	}{
		"no manifest":        {func(d *disk.Disk) { d.Remove("manifest") }, api.OK, 0},
		"a wrong manifest":   {func(d *disk.Disk) { d.Truncate("manifest", 5) }, api.ErrManifest, 0},
		"a missing segment":  {func(d *disk.Disk) { d.Remove(closedName) }, api.ErrLog, 0},
		"a short segment":    {func(d *disk.Disk) { n, _ := d.Size(closedName); d.Truncate(closedName, n-1) }, api.ErrLog, 0},
		"an empty segment":   {func(d *disk.Disk) { d.Truncate(closedName, 0) }, api.ErrLog, 0},
		"a long segment":     {func(d *disk.Disk) { d.Append(closedName, []byte{0}) }, api.ErrLog, 0},
		"a group too many":   {func(d *disk.Disk) { b, _ := segment.Encode(m.Parts[2].First, group(1)); d.Append(closedName, b) }, api.ErrLog, 0},
		"no open segment":    {func(d *disk.Disk) { d.Remove(openName) }, api.OK, before},
		"an empty open one":  {func(d *disk.Disk) { d.Truncate(openName, 0) }, api.OK, before},
		"a cut open one":     {func(d *disk.Disk) { n, _ := d.Size(openName); d.Truncate(openName, n-1) }, api.OK, 9},
		"more in the open":   {func(d *disk.Disk) { d.Append(openName, []byte("torn")) }, api.OK, 10},
		"a group of another": {func(d *disk.Disk) { b, _ := segment.Encode(12, group(1)); d.Append(openName, b) }, api.OK, 10},
		"one more group":     {func(d *disk.Disk) { b, _ := segment.Encode(11, numbered(10)); d.Append(openName, b) }, api.OK, 11},
		"damaged": {func(d *disk.Disk) {
			n, _ := d.Size(closedName)
			b, _ := d.Read(closedName, 0, n)
			b[n/2] ^= 4
			replace(t, d, closedName, b)
		}, api.ErrLog, 0},
		"groups of another": {func(d *disk.Disk) {
			n, _ := d.Size(segment.Name(m.Parts[0].Segment))
			b, _ := d.Read(segment.Name(m.Parts[0].Segment), 0, n)
			replace(t, d, closedName, b)
		}, api.ErrLog, 0},
		"fewer groups listed": {func(d *disk.Disk) {
			wrong := api.Manifest{Parts: []api.Part{{Segment: 1, First: 1, Groups: m.Parts[0].Groups + 1, Bytes: m.Parts[0].Bytes}}, Open: 2, Next: m.Parts[1].First + 1}
			manifest.Save(d, wrong)
		}, api.ErrLog, 0},
	} {
		d := written(t)
		c.do(d)
		l, e := log.Open(d, 150)
		if e != c.e || (l == nil) != (e != api.OK) {
			t.Error(name, e)
			continue
		}
		if e != api.OK {
			continue
		}
		if l.Count() != c.want || !segment.Same(l.Groups(), numberedUpTo(c.want)) {
			t.Error(name, l.Count())
		}
		size, e := d.Size(segment.Name(l.Manifest().Open))
		if size != l.Bytes() || e != api.OK {
			t.Error(name, size, l.Bytes(), e)
		}
		for i := c.want; i < 20; i++ {
			if e := l.Append(numbered(i)); e != api.OK {
				t.Error(name, e)
			}
		}
		d.Fall(api.Fall{Keep: []int{9, 9, 9, 9}})
		d.Boot()
		if l := open(t, d, 150); !segment.Same(l.Groups(), numberedUpTo(20)) {
			t.Error(name, "not durable")
		}
	}
}

// P19.2
func TestAppend(t *testing.T) {
	d := newDisk(t, 1<<22)
	l := open(t, d, 64)
	for name, wrong := range map[string][]api.Record{
		"none": nil, "a marker": {{Kind: 255}}, "kind 256": {{Kind: 256}}, "long": group(200001), "great": slices.Repeat(group(200000), 8),
	} {
		if e := l.Append(wrong); e != api.ErrSegment || l.Count() != 0 || l.Bytes() != 0 {
			t.Error(name, e)
		}
	}
	for i := range 30 {
		before, size := l.Manifest(), l.Bytes()
		b, _ := segment.Encode(uint64(i+1), numbered(i))
		if e := l.Append(numbered(i)); e != api.OK || l.Count() != i+1 {
			t.Error(i, e, l.Count())
		}
		after := l.Manifest()
		if size += len(b); size < 64 {
			if l.Bytes() != size || !manifest.Same(after, before) {
				t.Error(i, "is closed too early", l.Bytes())
			}
		} else if n := len(before.Parts); l.Bytes() != 0 || len(after.Parts) != n+1 || after.Parts[n].Bytes != size || after.Open != before.Open+1 || after.Next != uint64(i+2) {
			t.Error(i, "is not closed", l.Bytes(), after)
		}
		if m, e := manifest.Load(d); e != api.OK || !manifest.Same(m, after) {
			t.Error(i, m, e)
		}
	}
	d.Fall(api.Fall{})
	if e := l.Append(nil); e != api.ErrSegment {
		t.Error("ErrSegment comes first", e)
	}
	if e := l.Append(numbered(30)); e != api.ErrDown {
		t.Error(e)
	}
	d.Boot()
	if l := open(t, d, 64); !segment.Same(l.Groups(), numberedUpTo(30)) {
		t.Error("not durable", l.Count())
	}
}

// P19.2: a segment is closed at exactly its size
func TestExactSize(t *testing.T) {
	for size, closed := range map[int]int{77: 1, 78: 1, 79: 0} {
		l := open(t, newDisk(t, 10000), size)
		if e := l.Append(group(40)); e != api.OK || len(l.Manifest().Parts) != closed || l.Bytes() != 78*(1-closed) {
			t.Error(size, e, l.Manifest(), l.Bytes())
		}
	}
}

// P19.1: a log that is whole is only read
func TestOpenWhole(t *testing.T) {
	d := written(t)
	before := d.Operations()
	if l := open(t, d, 150); l.Count() != 10 || d.Operations() != before {
		t.Error(l.Count(), d.Operations()-before)
	}
}

// P19.2: an old file of the next segment is removed
func TestOldNextSegment(t *testing.T) {
	d := newDisk(t, 10000)
	l := open(t, d, 64)
	d.Create("seg.2")
	d.Append("seg.2", []byte("something old"))
	if e := l.Append(group(50)); e != api.OK || l.Manifest().Open != 2 {
		t.Error(e)
	}
	if n, e := d.Size("seg.2"); n != 0 || e != api.OK {
		t.Error(n, e)
	}
}

// P19.3
func TestClose(t *testing.T) {
	d := newDisk(t, 10000)
	l := open(t, d, 1000)
	operations := d.Operations()
	if e := l.Close(); e != api.OK || d.Operations() != operations || len(l.Manifest().Parts) != 0 {
		t.Error("nothing to close", e)
	}
	l.Append(numbered(0))
	l.Append(numbered(1))
	bytes := l.Bytes()
	if e := l.Close(); e != api.OK || l.Bytes() != 0 || l.Count() != 2 {
		t.Error(e, l.Bytes())
	}
	want := api.Manifest{Parts: []api.Part{{Segment: 1, First: 1, Groups: 2, Bytes: bytes}}, Open: 2, Next: 3}
	if !manifest.Same(l.Manifest(), want) {
		t.Error(l.Manifest())
	}
	if e := l.Close(); e != api.OK || !manifest.Same(l.Manifest(), want) {
		t.Error("nothing to close", e)
	}
	l.Append(numbered(2))
	d.Fall(api.Fall{})
	if e := l.Close(); e != api.ErrDown {
		t.Error(e)
	}
	d.Boot()
	if l := open(t, d, 1000); !segment.Same(l.Groups(), numberedUpTo(3)) {
		t.Error(l.Count())
	}
}

// P19.2, P19.3: no more than 1000 segments are closed
func TestMostParts(t *testing.T) {
	d := newDisk(t, 1<<22)
	l := open(t, d, 64)
	for range 1003 {
		if e := l.Append(group(40)); e != api.OK {
			t.Fatal(e)
		}
	}
	if len(l.Manifest().Parts) != 1000 || l.Count() != 1003 || l.Bytes() != 3*78 {
		t.Error(len(l.Manifest().Parts), l.Count(), l.Bytes())
	}
	if e := l.Close(); e != api.ErrLog || l.Bytes() != 3*78 {
		t.Error(e)
	}
	if l := open(t, d, 64); l.Count() != 1003 || l.Bytes() != 3*78 {
		t.Error(l.Count(), l.Bytes())
	}
}

// P19.2, P19.6: too little room
func TestFull(t *testing.T) {
	for room := 25; room < 700; room++ {
		d := newDisk(t, room)
		l, e := log.Open(d, 150)
		if e != api.OK {
			if e != api.ErrFull {
				t.Fatal(room, e)
			}
			continue
		}
		appended, refused := 0, 0
		for range 12 {
			before, operations, bytes := l.Manifest(), d.Operations(), l.Bytes()
			e := l.Append(numbered(appended))
			if e == api.OK {
				appended++
			} else if refused++; e != api.ErrFull || d.Operations() != operations || l.Bytes() != bytes || !manifest.Same(l.Manifest(), before) {
				t.Fatal(room, e)
			}
			if !segment.Same(l.Groups(), numberedUpTo(appended)) || l.Count() != appended {
				t.Fatal(room, l.Count(), appended)
			}
		}
		names := d.Names()
		parts := l.Manifest()
		if e := l.Close(); e == api.ErrFull && (!slices.Equal(d.Names(), names) || !manifest.Same(l.Manifest(), parts)) {
			t.Error(room, "a Close without room changes something", d.Names(), names)
		}
		small := []api.Record{{Kind: 9}}
		if fits := d.Left() >= 38; (l.Append(small) == api.OK) != fits {
			t.Error(room, "what fits is not appended, or what does not is", d.Left())
		} else if fits {
			appended++
		}
		d.Fall(api.Fall{})
		d.Boot()
		if again := open(t, d, 150); again.Count() != appended || !segment.Same(again.Groups(), l.Groups()) {
			t.Error(room, again.Count(), appended)
		}
	}
}

// P19.6
func TestCrashes(t *testing.T) {
	r := rand.New(rand.NewSource(1))
	for at := 1; at <= 120; at++ {
		for range 20 {
			d := newDisk(t, 100000)
			d.Arm(api.Fall{At: at, Keep: []int{r.Intn(60), r.Intn(60), r.Intn(60), r.Intn(60)}, File: r.Intn(5), Place: r.Intn(60), Bits: r.Uint32() & r.Uint32(), Done: r.Intn(2) == 0})
			appended, trying := 0, 0
			l, e := log.Open(d, 100)
			for appended < 12 && e == api.OK {
				trying = appended + 1
				if e = l.Append(numbered(appended)); e != api.OK {
					break
				}
				appended++
				if appended%4 == 0 {
					e = l.Close()
				}
			}
			if e != api.OK && e != api.ErrDown {
				t.Fatal(at, e)
			}
			d.Fall(api.Fall{})
			d.Boot()
			if r.Intn(2) == 0 {
				d.Arm(api.Fall{At: 1 + r.Intn(4), Keep: []int{r.Intn(60), r.Intn(60), r.Intn(60)}, Done: r.Intn(2) == 0})
				log.Open(d, 100)
				d.Fall(api.Fall{Keep: []int{r.Intn(60)}})
				d.Boot()
			}
			again := open(t, d, 100)
			if n := again.Count(); n != appended && n != trying || !segment.Same(again.Groups(), numberedUpTo(n)) {
				t.Fatal(at, n, appended)
			}
			for i := again.Count(); i < 15; i++ {
				if e := again.Append(numbered(i)); e != api.OK {
					t.Fatal(at, e)
				}
			}
			d.Fall(api.Fall{})
			d.Boot()
			if last := open(t, d, 100); !segment.Same(last.Groups(), numberedUpTo(15)) {
				t.Fatal(at, last.Count())
			}
		}
	}
}

func TestNoLog(t *testing.T) {
	for _, l := range []*log.Log{nil, {}} {
		if l.Append(nil) != api.ErrNil || l.Append(group(1)) != api.ErrNil || l.Close() != api.ErrNil {
			t.Error("no log appends")
		}
		if l.Groups() != nil || l.Count() != 0 || !manifest.Same(l.Manifest(), api.Manifest{}) || l.Bytes() != 0 {
			t.Error("no log has something")
		}
	}
}

// P19.5
func TestNothingIsShared(t *testing.T) {
	d := newDisk(t, 10000)
	l := open(t, d, 64)
	records := numbered(5)
	l.Append(records)
	records[0].Payload[0] = 'x'
	records[1].Kind = 99
	l.Groups()[0][0].Payload[0] = 'y'
	l.Groups()[0][1] = api.Record{Kind: 98}
	l.Manifest().Parts[0].Bytes = 1
	if !record.Same(l.Groups()[0], numbered(5)) || l.Manifest().Parts[0].Bytes == 1 {
		t.Error("memory is shared")
	}
}
