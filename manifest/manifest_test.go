package manifest_test

import (
	"bytes"
	"encoding/hex"
	"math"
	"math/rand"
	"slices"
	"testing"

	"purser/api"
	"purser/disk"
	"purser/manifest"
	"purser/record"
)

func empty() api.Manifest { return api.Manifest{Open: 1, Next: 1} }

func one() api.Manifest {
	return api.Manifest{Parts: []api.Part{{Segment: 1, First: 1, Groups: 3, Bytes: 100}}, Open: 2, Next: 4}
}

func two() api.Manifest {
	return api.Manifest{Parts: []api.Part{{Segment: 3, First: 1, Groups: 3, Bytes: 100}, {Segment: 9, First: 4, Groups: 1, Bytes: 1 << 26}}, Open: 12, Next: 5}
}

// parts returns a manifest with so many parts.
func parts(n int) api.Manifest {
	m := api.Manifest{Open: n + 1, Next: uint64(n + 1)}
	for i := range n {
		m.Parts = append(m.Parts, api.Part{Segment: i + 1, First: uint64(i + 1), Groups: 1, Bytes: 1})
	}
	return m
}

func newDisk(t *testing.T, room int) *disk.Disk {
	t.Helper()
	d, e := disk.New(room)
	if e != api.OK {
		t.Fatal(e)
	}
	return d
}

// P18.1
func TestCheck(t *testing.T) {
	most := one()
	most.Parts[0].Groups, most.Next = math.MaxInt32, 1<<31
	for name, m := range map[string]api.Manifest{
		"empty": empty(), "one": one(), "two": two(), "1000 parts": parts(1000), "most groups": most,
		"greatest open one": {Open: 1 << 30, Next: 1},
	} {
		if e := manifest.Check(m); e != api.OK {
			t.Error(name, e)
		}
		b, e := manifest.Encode(m)
		if got, f := manifest.Decode(b); e != api.OK || f != api.OK || !manifest.Same(got, m) {
			t.Error(name, e, f)
		}
	}
	change := func(from api.Manifest, f func(m *api.Manifest)) api.Manifest { f(&from); return from }
	for name, m := range map[string]api.Manifest{
		"zero":               {},
		"Open 0":             {Open: 0, Next: 1},
		"Open -1":            {Open: -1, Next: 1},
		"Open too great":     {Open: 1<<30 + 1, Next: 1},
		"Next 0":             {Open: 1},
		"Next 2":             {Open: 1, Next: 2},
		"1001 parts":         parts(1001),
		"no groups":          change(one(), func(m *api.Manifest) { m.Parts[0].Groups, m.Next = 0, 1 }),
		"-1 groups":          change(one(), func(m *api.Manifest) { m.Parts[0].Groups, m.Next = -1, 0 }),
		"too many groups":    change(one(), func(m *api.Manifest) { m.Parts[0].Groups, m.Next = 1<<31, 1<<31+1 }),
		"no bytes":           change(one(), func(m *api.Manifest) { m.Parts[0].Bytes = 0 }),
		"-1 bytes":           change(one(), func(m *api.Manifest) { m.Parts[0].Bytes = -1 }),
		"too many bytes":     change(one(), func(m *api.Manifest) { m.Parts[0].Bytes = 1<<26 + 1 }),
		"segment 0":          change(one(), func(m *api.Manifest) { m.Parts[0].Segment = 0 }),
		"segment -1":         change(one(), func(m *api.Manifest) { m.Parts[0].Segment = -1 }),
		"a segment twice":    change(two(), func(m *api.Manifest) { m.Parts[1].Segment = 3 }),
		"descending":         change(two(), func(m *api.Manifest) { m.Parts[1].Segment = 2 }),
		"open one is closed": change(two(), func(m *api.Manifest) { m.Open = 9 }),
		"open one is less":   change(two(), func(m *api.Manifest) { m.Open = 4 }),
		"First is 2":         change(one(), func(m *api.Manifest) { m.Parts[0].First, m.Next = 2, 5 }),
		"First is 0":         change(one(), func(m *api.Manifest) { m.Parts[0].First, m.Next = 0, 3 }),
		"a gap":              change(two(), func(m *api.Manifest) { m.Parts[1].First, m.Next = 5, 6 }),
		"an overlap":         change(two(), func(m *api.Manifest) { m.Parts[1].First, m.Next = 3, 4 }),
		"Next 5":             change(one(), func(m *api.Manifest) { m.Next = 5 }),
		"Next 3":             change(one(), func(m *api.Manifest) { m.Next = 3 }),
	} {
		if e := manifest.Check(m); e != api.ErrManifest {
			t.Error(name, e)
		}
		if b, e := manifest.Encode(m); b != nil || e != api.ErrManifest {
			t.Error(name, "Encode", e)
		}
		if e := manifest.Save(newDisk(t, 100000), m); e != api.ErrManifest {
			t.Error(name, "Save", e)
		}
	}
}

const onePayload = "01000000" + "01000000" + "0100000000000000" + "03000000" + "64000000" + "02000000" + "0400000000000000"

// P18.1
func TestEncodeAndDecode(t *testing.T) {
	payload, _ := hex.DecodeString(onePayload)
	want, _ := record.Encode(api.Record{Payload: payload})
	b, e := manifest.Encode(one())
	if e != api.OK || !bytes.Equal(b, want) {
		t.Errorf("%x, %d", b, e)
	}
	wrong := func(kind int, hexadecimal string) []byte {
		payload, err := hex.DecodeString(hexadecimal)
		if err != nil {
			t.Fatal(err)
		}
		b, _ := record.Encode(api.Record{Kind: kind, Payload: payload})
		return b
	}
	if m, e := manifest.Decode(wrong(0, onePayload)); e != api.OK || !manifest.Same(m, one()) {
		t.Error(m, e)
	}
	for name, b := range map[string][]byte{
		"none": nil, "less": b[:len(b)-1], "more": append(slices.Clone(b), 0), "twice": append(slices.Clone(b), b...), "kind 1": wrong(1, onePayload),
		"more in it": wrong(0, onePayload+"00"), "less in it": wrong(0, onePayload[:len(onePayload)-2]), "nothing in it": wrong(0, ""), "a number": wrong(0, "00000000"),
		"not valid": wrong(0, "00000000"+"00000000"+"0100000000000000"), "too many parts": wrong(0, "ffffffff"+onePayload[8:]),
		"parts that are not there": wrong(0, "02000000"+onePayload[8:]),
	} {
		if m, e := manifest.Decode(b); e != api.ErrManifest || !manifest.Same(m, api.Manifest{}) {
			t.Error(name, m, e)
		}
	}
	full, _ := manifest.Encode(parts(1000))
	miscounted, _, _ := record.Decode(full, 0)
	miscounted.Payload[1]++
	counted, _ := record.Encode(miscounted)
	if m, e := manifest.Decode(counted); e != api.ErrManifest || !manifest.Same(m, api.Manifest{}) {
		t.Error("1000 parts, miscounted", e)
	}
	for i := range b {
		damaged := slices.Clone(b)
		damaged[i] ^= 1
		if m, e := manifest.Decode(damaged); e != api.ErrManifest || !manifest.Same(m, api.Manifest{}) {
			t.Error("byte", i, m, e)
		}
	}
}

// P18.1
func TestSame(t *testing.T) {
	if !manifest.Same(api.Manifest{}, api.Manifest{Parts: []api.Part{}}) || !manifest.Same(two(), two()) {
		t.Error("equal ones are not the same")
	}
	for name, change := range map[string]func(m *api.Manifest){
		"fewer":   func(m *api.Manifest) { m.Parts = m.Parts[:1] },
		"segment": func(m *api.Manifest) { m.Parts[1].Segment++ },
		"first":   func(m *api.Manifest) { m.Parts[0].First++ },
		"groups":  func(m *api.Manifest) { m.Parts[0].Groups++ },
		"bytes":   func(m *api.Manifest) { m.Parts[1].Bytes++ },
		"open":    func(m *api.Manifest) { m.Open++ },
		"next":    func(m *api.Manifest) { m.Next++ },
	} {
		m := two()
		if change(&m); manifest.Same(m, two()) || manifest.Same(two(), m) {
			t.Error(name)
		}
	}
}

// P18.2, P18.3
func TestSaveAndLoad(t *testing.T) {
	d := newDisk(t, 100000)
	if m, e := manifest.Load(d); e != api.ErrNone || !manifest.Same(m, api.Manifest{}) {
		t.Error(m, e)
	}
	for i, m := range []api.Manifest{empty(), one(), parts(1000), two()} {
		before := d.Operations()
		if e := manifest.Save(d, m); e != api.OK || d.Operations()-before != 4 {
			t.Error(i, e, d.Operations()-before)
		}
		if got, e := manifest.Load(d); e != api.OK || !manifest.Same(got, m) {
			t.Error(i, got, e)
		}
		b, _ := manifest.Encode(m)
		if got, e := d.Read("manifest", 0, len(b)); !bytes.Equal(got, b) || e != api.OK || !slices.Equal(d.Names(), []string{"manifest"}) {
			t.Error(i, got, e)
		}
	}
	d.Create("manifest.new")
	d.Append("manifest.new", []byte("something old"))
	if e := manifest.Save(d, one()); e != api.OK {
		t.Error(e)
	}
	if got, e := manifest.Load(d); e != api.OK || !manifest.Same(got, one()) || !slices.Equal(d.Names(), []string{"manifest"}) {
		t.Error(got, e)
	}
	d.Fall(api.Fall{})
	if e := manifest.Save(d, one()); e != api.ErrDown {
		t.Error(e)
	}
	if m, e := manifest.Load(d); e != api.ErrDown || !manifest.Same(m, api.Manifest{}) {
		t.Error(m, e)
	}
	d.Boot()
	if got, e := manifest.Load(d); e != api.OK || !manifest.Same(got, one()) {
		t.Error("not durable", got, e)
	}
}

// P18.2
func TestWrongCalls(t *testing.T) {
	if e := manifest.Save(nil, api.Manifest{}); e != api.ErrNil {
		t.Error(e)
	}
	if e := manifest.Save(&disk.Disk{}, one()); e != api.ErrNil {
		t.Error(e)
	}
	for _, d := range []*disk.Disk{nil, {}} {
		if m, e := manifest.Load(d); e != api.ErrNil || !manifest.Same(m, api.Manifest{}) {
			t.Error(m, e)
		}
	}
	d := newDisk(t, 1000)
	d.Create("manifest")
	d.Append("manifest", []byte("no manifest"))
	if m, e := manifest.Load(d); e != api.ErrManifest || !manifest.Same(m, api.Manifest{}) {
		t.Error(m, e)
	}
	if e := manifest.Save(d, one()); e != api.OK {
		t.Error(e)
	}
}

// P18.2
func TestFull(t *testing.T) {
	b, _ := manifest.Encode(two())
	small, _ := manifest.Encode(empty())
	for room := len(small); room <= len(small)+len(b); room++ {
		d := newDisk(t, room)
		if e := manifest.Save(d, empty()); e != api.OK {
			t.Fatal(e)
		}
		e := manifest.Save(d, two())
		want, wantErr := two(), api.OK
		if room < len(small)+len(b) {
			want, wantErr = empty(), api.ErrFull
		}
		if got, f := manifest.Load(d); e != wantErr || f != api.OK || !manifest.Same(got, want) || !slices.Equal(d.Names(), []string{"manifest"}) {
			t.Error(room, e, got, f, d.Names())
		}
	}
}

// P18.5
func TestCrashes(t *testing.T) {
	r := rand.New(rand.NewSource(1))
	for _, first := range []bool{true, false} {
		for _, left := range []bool{false, true} {
			for at := 1; at <= 6; at++ {
				for range 40 {
					d := newDisk(t, 10000)
					if !first {
						manifest.Save(d, one())
					}
					if left {
						d.Create("manifest.new")
						d.Append("manifest.new", []byte("left"))
					}
					d.Arm(api.Fall{At: at, Keep: []int{r.Intn(90), r.Intn(90)}, File: r.Intn(3), Place: r.Intn(60), Bits: r.Uint32(), Done: r.Intn(2) == 0})
					e := manifest.Save(d, two())
					steps := 4
					if left {
						steps = 5
					}
					if (e == api.OK) != (at > steps) || e != api.OK && e != api.ErrDown {
						t.Error(at, e)
					}
					d.Fall(api.Fall{})
					d.Boot()
					got, f := manifest.Load(d)
					isNew := f == api.OK && manifest.Same(got, two())
					isOld := f == api.OK && manifest.Same(got, one()) && !first || f == api.ErrNone && first
					if !isNew && (!isOld || e == api.OK) {
						t.Error(first, left, at, got, f)
					}
					if e := manifest.Save(d, two()); e != api.OK {
						t.Error("not to be saved again", e)
					}
				}
			}
		}
	}
}

// P18.4
func TestNothingIsShared(t *testing.T) {
	d := newDisk(t, 1000)
	m := two()
	manifest.Save(d, m)
	m.Parts[0].Segment = 99
	got, _ := manifest.Load(d)
	got.Parts[1].Segment = 98
	if again, _ := manifest.Load(d); !manifest.Same(again, two()) {
		t.Error(again)
	}
}
