package record_test

import (
	"bytes"
	"encoding/binary"
	"hash/crc32"
	"math"
	"math/rand"
	"slices"
	"testing"

	"purser/api"
	"purser/record"
)

// marked is b with its checksum behind it.
func marked(b []byte) []byte {
	sum := crc32.Checksum(b, crc32.MakeTable(crc32.Castagnoli))
	return binary.LittleEndian.AppendUint32(slices.Clone(b), sum)
}

// encoded is the encoding of a record, made in another way than the package's.
func encoded(kind int, payload []byte) []byte {
	head := binary.LittleEndian.AppendUint32([]byte{byte(kind)}, uint32(len(payload)))
	return append(marked(head), marked(payload)...)
}

func rec(kind int, payload string) api.Record {
	return api.Record{Kind: kind, Payload: []byte(payload)}
}

func sized(kind, n int) api.Record { return api.Record{Kind: kind, Payload: make([]byte, n)} }

// P16.1
func TestCheckAndEncode(t *testing.T) {
	for _, c := range []struct {
		r api.Record
		e api.Errno
	}{
		{rec(7, "ab"), api.OK},
		{api.Record{}, api.OK},
		{rec(255, ""), api.OK},
		{rec(256, ""), api.ErrRecord},
		{rec(-1, ""), api.ErrRecord},
		{rec(math.MaxInt, ""), api.ErrRecord},
		{rec(math.MinInt, ""), api.ErrRecord},
		{sized(0, 200000), api.OK},
		{sized(0, 200001), api.ErrRecord},
	} {
		if e := record.Check(c.r); e != c.e {
			t.Error("Check", c.r.Kind, len(c.r.Payload), e)
		}
		b, e := record.Encode(c.r)
		if e != c.e || c.e != api.OK && b != nil || c.e == api.OK && !bytes.Equal(b, encoded(c.r.Kind, c.r.Payload)) {
			t.Error("Encode", c.r.Kind, len(c.r.Payload), e)
		}
		for _, l := range [][]api.Record{{rec(1, "x"), c.r}, {c.r, rec(1, "x")}} {
			if b, e := record.Encode(l...); e != c.e || (b == nil) != (e != api.OK) {
				t.Error("Encode of two", c.r.Kind, e)
			}
		}
	}
	b, e := record.Encode(rec(7, "ab"))
	if e != api.OK || len(b) != 15 || !bytes.Equal(b[:5], []byte{7, 2, 0, 0, 0}) || string(b[9:11]) != "ab" {
		t.Errorf("%x, %d", b, e)
	}
	if b, e := record.Encode(); len(b) != 0 || e != api.OK {
		t.Error("no records", b, e)
	}
	b, e = record.Encode(rec(1, "x"), rec(2, ""), rec(3, "yz"))
	if e != api.OK || !bytes.Equal(b, slices.Concat(encoded(1, []byte("x")), encoded(2, nil), encoded(3, []byte("yz")))) {
		t.Errorf("%x, %d", b, e)
	}
}

// P16.2
func TestDecode(t *testing.T) {
	b := encoded(7, []byte("ab"))
	for _, c := range []struct {
		name string
		b    []byte
		at   int
		want api.Record
		next int
		e    api.Errno
	}{
		{"whole", b, 0, rec(7, "ab"), 15, api.OK},
		{"at 1", b, 1, api.Record{}, 0, api.ErrRecord},
		{"14 bytes", b[:14], 0, api.Record{}, 0, api.ErrRecord},
		{"the end", b, 15, api.Record{}, 0, api.ErrRecord},
		{"behind the end", b, 16, api.Record{}, 0, api.ErrRecord},
		{"far behind", b, math.MaxInt, api.Record{}, 0, api.ErrRecord},
		{"-1", b, -1, api.Record{}, 0, api.ErrRecord},
		{"far ahead", b, math.MinInt, api.Record{}, 0, api.ErrRecord},
		{"none", nil, 0, api.Record{}, 0, api.ErrRecord},
		{"more behind", append(slices.Clone(b), 1, 2, 3), 0, rec(7, "ab"), 15, api.OK},
		{"more ahead", append([]byte{1, 2, 3}, b...), 3, rec(7, "ab"), 18, api.OK},
		{"empty", encoded(0, nil), 0, api.Record{}, 13, api.OK},
		{"greatest", encoded(255, make([]byte, 200000)), 0, sized(255, 200000), 200013, api.OK},
		{"too great", encoded(255, make([]byte, 200001)), 0, api.Record{}, 0, api.ErrRecord},
		{"head alone", b[:9], 0, api.Record{}, 0, api.ErrRecord},
		{"head, wrong sum", slices.Concat(b[:8], []byte{b[8] ^ 1}, b[9:]), 0, api.Record{}, 0, api.ErrRecord},
		{"payload, wrong sum", slices.Concat(b[:14], []byte{b[14] ^ 1}), 0, api.Record{}, 0, api.ErrRecord},
		{"a huge length", append(marked([]byte{1, 255, 255, 255, 255}), make([]byte, 100)...), 0, api.Record{}, 0, api.ErrRecord},
	} {
		r, next, e := record.Decode(c.b, c.at)
		if e != c.e || next != c.next || !record.Same([]api.Record{r}, []api.Record{c.want}) {
			t.Error(c.name, r.Kind, len(r.Payload), next, e)
		}
		l, end := record.All(c.b, c.at)
		wantEnd := c.next
		if c.e != api.OK && c.at >= 0 && c.at <= len(c.b) {
			wantEnd = c.at
		}
		if end != wantEnd || (len(l) == 1) != (c.e == api.OK) || len(l) == 1 && !record.Same(l, []api.Record{c.want}) {
			t.Error(c.name, "All", len(l), end)
		}
	}
}

// P16.2
func TestAll(t *testing.T) {
	l := []api.Record{rec(1, "x"), rec(255, ""), rec(0, "abc")}
	b, _ := record.Encode(l...)
	for at, want := range map[int][]api.Record{0: l, 14: l[1:], 27: l[2:], 43: nil} {
		if got, end := record.All(b, at); !record.Same(got, want) || end != 43 {
			t.Error(at, len(got), end)
		}
		if got, end := record.All(append(slices.Clone(b), "something else"...), at); !record.Same(got, want) || end != 43 {
			t.Error("with more behind", at, len(got), end)
		}
	}
	for n := range b {
		want, end := 0, 0
		for i, place := range []int{14, 27, 43} {
			if n >= place {
				want, end = i+1, place
			}
		}
		if got, to := record.All(b[:n], 0); !record.Same(got, l[:want]) || to != end {
			t.Error(n, len(got), to)
		}
	}
	for _, at := range []int{-1, 44, math.MaxInt, math.MinInt} {
		if got, end := record.All(b, at); got != nil || end != 0 {
			t.Error(at, len(got), end)
		}
	}
	if got, end := record.All(b, 5); got != nil || end != 5 {
		t.Error(len(got), end)
	}
}

// P16.2
func TestSame(t *testing.T) {
	a := []api.Record{rec(1, "x"), {Kind: 2}}
	for name, c := range map[string]struct {
		b    []api.Record
		want bool
	}{
		"equal":     {[]api.Record{rec(1, "x"), rec(2, "")}, true},
		"fewer":     {a[:1], false},
		"more":      {append(slices.Clone(a), a[0]), false},
		"exchanged": {[]api.Record{a[1], a[0]}, false},
		"kind":      {[]api.Record{rec(1, "x"), rec(3, "")}, false},
		"payload":   {[]api.Record{rec(1, "y"), rec(2, "")}, false},
		"length":    {[]api.Record{rec(1, "xx"), rec(2, "")}, false},
	} {
		if record.Same(a, c.b) != c.want || record.Same(c.b, a) != c.want {
			t.Error(name)
		}
	}
	if !record.Same(nil, []api.Record{}) {
		t.Error("no records are the same")
	}
}

// P16.4
func TestDamage(t *testing.T) {
	r := rand.New(rand.NewSource(1))
	var l []api.Record
	ends := []int{}
	var b []byte
	for range 8 {
		payload := make([]byte, r.Intn(30))
		r.Read(payload)
		l = append(l, api.Record{Kind: r.Intn(256), Payload: payload})
		b, _ = record.Encode(l...)
		ends = append(ends, len(b))
	}
	if got, end := record.All(b, 0); !record.Same(got, l) || end != len(b) {
		t.Error("not there and back")
	}
	for first := range b {
		for many := 1; many <= 4 && first+many <= len(b); many++ {
			for range 10 {
				damaged := slices.Clone(b)
				for i := range many {
					damaged[first+i] ^= byte(r.Intn(256))
				}
				damaged[first] = b[first] ^ byte(1+r.Intn(255))
				whole, _ := slices.BinarySearch(ends, first+1)
				if got, _ := record.All(damaged, 0); !record.Same(got, l[:whole]) {
					t.Fatalf("%d bytes at %d: %d records, not %d", many, first, len(got), whole)
				}
			}
		}
	}
}

// P16.3
func TestNothingIsShared(t *testing.T) {
	payload := []byte("abc")
	b, _ := record.Encode(api.Record{Kind: 1, Payload: payload})
	payload[0] = 'x'
	r, _, _ := record.Decode(b, 0)
	kept := slices.Clone(b)
	b[9] = 'y'
	if string(r.Payload) != "abc" {
		t.Error("Decode keeps its argument")
	}
	l, _ := record.All(kept, 0)
	l[0].Payload = append(l[0].Payload, "12345678"...)
	l[0].Payload[0] = 'z'
	if again, _, e := record.Decode(kept, 0); e != api.OK || string(again.Payload) != "abc" {
		t.Error("All gives its argument's memory")
	}
}
