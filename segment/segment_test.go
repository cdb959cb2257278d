package segment_test

import (
	"bytes"
	"encoding/binary"
	"math"
	"math/rand"
	"slices"
	"testing"

	"purser/api"
	"purser/record"
	"purser/segment"
)

func rec(kind int, payload string) api.Record {
	return api.Record{Kind: kind, Payload: []byte(payload)}
}

func sized(n int) api.Record { return api.Record{Kind: 1, Payload: make([]byte, n)} }

func marker(number uint64, many uint32) api.Record {
	b := binary.LittleEndian.AppendUint64(nil, number)
	return api.Record{Kind: 255, Payload: binary.LittleEndian.AppendUint32(b, many)}
}

func encoded(t *testing.T, l ...api.Record) []byte {
	t.Helper()
	b, e := record.Encode(l...)
	if e != api.OK {
		t.Fatal(e)
	}
	return b
}

// sizes returns records whose group has so many bytes.
func sizes(group int) []api.Record {
	rest := group - 25
	var l []api.Record
	for rest > 0 {
		n := min(rest-13, 200000)
		if left := rest - n - 13; left > 0 && left < 13 {
			n -= 13
		}
		l = append(l, sized(n))
		rest -= n + 13
	}
	return l
}

// P17.1
func TestEncode(t *testing.T) {
	b, e := segment.Encode(1, []api.Record{rec(3, "x")})
	want := encoded(t, rec(3, "x"), marker(1, 1))
	if e != api.OK || !bytes.Equal(b, want) || len(b) != 39 || b[14] != 0xFF || b[15] != 12 {
		t.Errorf("%x, %d", b, e)
	}
	for _, number := range []uint64{2, 256, 1 << 40, math.MaxUint64} {
		l := []api.Record{rec(0, ""), rec(254, "abc"), rec(7, "y")}
		if b, e := segment.Encode(number, l); e != api.OK || !bytes.Equal(b, encoded(t, append(l, marker(number, 3))...)) {
			t.Error(number, e)
		}
	}
	many := make([]api.Record, 300)
	if b, e := segment.Encode(9, many); e != api.OK || !bytes.Equal(b, encoded(t, append(many, marker(9, 300))...)) {
		t.Error("many records", e)
	}
	for name, c := range map[string]struct {
		number uint64
		l      []api.Record
	}{
		"number 0":     {0, []api.Record{rec(3, "x")}},
		"no records":   {1, nil},
		"a marker":     {1, []api.Record{rec(255, "x")}},
		"its own":      {1, []api.Record{marker(1, 1)}},
		"a marker too": {1, []api.Record{rec(3, "x"), rec(255, ""), rec(3, "x")}},
		"kind 256":     {1, []api.Record{rec(3, "x"), rec(256, "")}},
		"kind -1":      {1, []api.Record{rec(-1, "")}},
		"a long one":   {1, []api.Record{sized(200001)}},
		"too great":    {1, sizes(1500001)},
		"far too much": {1, slices.Repeat([]api.Record{sized(200000)}, 8)},
	} {
		if b, e := segment.Encode(c.number, c.l); b != nil || e != api.ErrSegment {
			t.Error(name, len(b), e)
		}
	}
	if b, e := segment.Encode(1, sizes(1500000)); len(b) != 1500000 || e != api.OK {
		t.Error("the greatest", len(b), e)
	}
}

// P17.2
func TestReadOne(t *testing.T) {
	b, _ := segment.Encode(1, []api.Record{rec(3, "x")})
	top, _ := segment.Encode(math.MaxUint64, []api.Record{rec(3, "x")})
	great := encoded(t, append(sizes(1500001), marker(1, uint32(len(sizes(1500001)))))...)
	greatest := encoded(t, append(sizes(1500000), marker(1, uint32(len(sizes(1500000)))))...)
	for name, c := range map[string]struct {
		b      []byte
		number uint64
		many   int
		end    int
	}{
		"whole":            {b, 1, 1, 39},
		"another number":   {b, 2, 0, 0},
		"38 bytes":         {b[:38], 1, 0, 0},
		"number 0":         {b, 0, 0, 0},
		"number 0 in it":   {encoded(t, rec(3, "x"), marker(0, 1)), 0, 0, 0},
		"more behind":      {append(slices.Clone(b), 1, 2), 1, 1, 39},
		"more ahead":       {append([]byte{1}, b...), 1, 0, 0},
		"no records":       {encoded(t, marker(1, 0)), 1, 0, 0},
		"no marker":        {encoded(t, rec(3, "x")), 1, 0, 0},
		"wrong count":      {encoded(t, rec(3, "x"), marker(1, 2)), 1, 0, 0},
		"a short marker":   {encoded(t, rec(3, "x"), rec(255, "")), 1, 0, 0},
		"a long marker":    {encoded(t, rec(3, "x"), rec(255, string(append(marker(1, 1).Payload, 0)))), 1, 0, 0},
		"the last number":  {append(slices.Clone(top), encoded(t, rec(3, "x"), marker(0, 1))...), math.MaxUint64, 1, 39},
		"the first twice":  {slices.Concat(b, b), 1, 1, 39},
		"nothing":          {nil, 1, 0, 0},
		"a great group":    {great, 1, 0, 0},
		"the greatest one": {greatest, 1, 1, 1500000},
	} {
		l, end := segment.Read(c.b, c.number)
		if len(l) != c.many || end != c.end {
			t.Error(name, len(l), end)
		}
	}
}

// three returns three groups, their bytes, and the offsets behind them.
func three(t *testing.T, number uint64) (l [][]api.Record, b []byte, ends []int) {
	t.Helper()
	l = [][]api.Record{{rec(1, "a"), rec(2, "")}, {rec(0, "bcd")}, {rec(254, "e"), rec(3, "fg"), rec(4, "h")}}
	for i, group := range l {
		part, e := segment.Encode(number+uint64(i), group)
		if e != api.OK {
			t.Fatal(e)
		}
		b = append(b, part...)
		ends = append(ends, len(b))
	}
	return l, b, ends
}

// P17.2, P17.5
func TestReadMany(t *testing.T) {
	for _, number := range []uint64{1, 7, 1 << 33} {
		l, b, ends := three(t, number)
		for n := range len(b) + 1 {
			whole := 0
			for whole < 3 && ends[whole] <= n {
				whole++
			}
			end := 0
			if whole > 0 {
				end = ends[whole-1]
			}
			if got, to := segment.Read(b[:n], number); !segment.Same(got, l[:whole]) || to != end {
				t.Error(number, n, len(got), to)
			}
		}
		if got, end := segment.Read(b, number+1); got != nil || end != 0 {
			t.Error(number, len(got), end)
		}
	}
}

// P17.2: the limit is that of one group
func TestReadMuch(t *testing.T) {
	var b []byte
	for number := uint64(1); number <= 4; number++ {
		part, e := segment.Encode(number, sizes(1200000))
		if e != api.OK {
			t.Fatal(e)
		}
		b = append(b, part...)
	}
	if l, end := segment.Read(b, 1); len(l) != 4 || end != 4800000 {
		t.Error(len(l), end)
	}
}

// P17.5
func TestDamage(t *testing.T) {
	r := rand.New(rand.NewSource(1))
	l, b, ends := three(t, 5)
	for first := range b {
		for many := 1; many <= 4 && first+many <= len(b); many++ {
			damaged := slices.Clone(b)
			for i := range many {
				damaged[first+i] ^= byte(r.Intn(256))
			}
			damaged[first] = b[first] ^ byte(1+r.Intn(255))
			whole, _ := slices.BinarySearch(ends, first+1)
			if got, _ := segment.Read(damaged, 5); !segment.Same(got, l[:whole]) {
				t.Errorf("%d bytes at %d: %d groups", many, first, len(got))
			}
		}
	}
}

// P17.2
func TestSame(t *testing.T) {
	a, _, _ := three(t, 1)
	for name, c := range map[string]struct {
		b    [][]api.Record
		want bool
	}{
		"equal":     {[][]api.Record{{rec(1, "a"), {Kind: 2}}, a[1], a[2]}, true},
		"fewer":     {a[:2], false},
		"exchanged": {[][]api.Record{a[1], a[0], a[2]}, false},
		"divided":   {[][]api.Record{{a[0][0]}, {a[0][1]}, a[1], a[2]}, false},
		"other":     {[][]api.Record{a[0], {rec(0, "bce")}, a[2]}, false},
	} {
		if segment.Same(a, c.b) != c.want || segment.Same(c.b, a) != c.want {
			t.Error(name)
		}
	}
	if !segment.Same(nil, [][]api.Record{}) {
		t.Error("no groups are the same")
	}
}

// P17.3
func TestNames(t *testing.T) {
	for n, name := range map[int]string{1: "seg.1", 12: "seg.12", 100: "seg.100", 1 << 30: "seg.1073741824"} {
		if got := segment.Name(n); got != name {
			t.Error(n, got)
		}
		if got := segment.Number(name); got != n {
			t.Error(name, got)
		}
	}
	for _, n := range []int{0, -1, 1<<30 + 1, math.MaxInt, math.MinInt} {
		if got := segment.Name(n); got != "" {
			t.Error(n, got)
		}
	}
	for _, name := range []string{
		"", "seg", "seg.", "seg.0", "seg.012", "seg.00", "seg.-1", "seg.+1", "seg.1 ", "seg. 1", "seg.1.", "seg.1a", "seg.0x1", "seg.1_0", "Seg.1", "1", ".1", "xseg.1",
		"seg.1073741825", "seg.99999999999999999999999999", "seg.18446744073709551617",
	} {
		if got := segment.Number(name); got != 0 {
			t.Errorf("Number(%q) is %d", name, got)
		}
	}
}

// P17.4
func TestNothingIsShared(t *testing.T) {
	room := []api.Record{rec(1, "a"), rec(9, "behind")}
	payload := room[0].Payload
	b, _ := segment.Encode(1, room[:1])
	if room[1].Kind != 9 {
		t.Error("Encode writes behind its argument")
	}
	payload[0] = 'x'
	kept := slices.Clone(b)
	l, _ := segment.Read(b, 1)
	clear(b)
	if string(l[0][0].Payload) != "a" {
		t.Error("an argument is kept")
	}
	l[0][0].Payload[0] = 'z'
	if again, _ := segment.Read(kept, 1); string(again[0][0].Payload) != "a" {
		t.Error("Read gives memory twice")
	}
}
