package octet_test

import (
	"bytes"
	"encoding/hex"
	"math"
	"math/rand"
	"testing"

	"purser/api"
	"purser/octet"
)

func unhex(t *testing.T, s string) []byte {
	t.Helper()
	b, err := hex.DecodeString(s)
	if err != nil {
		t.Fatal(err)
	}
	return b
}

// P1.1
func TestPenFixed(t *testing.T) {
	for _, c := range []struct {
		size int
		n    uint64
		e    api.Errno
		want string
	}{
		{4, 258, api.OK, "02010000"},
		{1, 0, api.OK, "00"},
		{1, 255, api.OK, "ff"},
		{1, 256, api.ErrOctet, ""},
		{2, 65535, api.OK, "ffff"},
		{2, 65536, api.ErrOctet, ""},
		{4, 1<<32 - 1, api.OK, "ffffffff"},
		{4, 1 << 32, api.ErrOctet, ""},
		{8, math.MaxUint64, api.OK, "ffffffffffffffff"},
		{8, 0x0102030405060708, api.OK, "0807060504030201"},
		{8, 0, api.OK, "0000000000000000"},
		{3, 0, api.ErrArg, ""},
		{3, 1 << 40, api.ErrArg, ""},
		{0, 0, api.ErrArg, ""},
		{-1, 0, api.ErrArg, ""},
		{5, 0, api.ErrArg, ""},
		{16, 0, api.ErrArg, ""},
		{math.MaxInt, 0, api.ErrArg, ""},
	} {
		var p octet.Pen
		p.Raw([]byte{0xEE})
		if e := p.Fixed(c.size, c.n); e != c.e {
			t.Errorf("Fixed(%d, %d): %d, not %d", c.size, c.n, e, c.e)
		}
		if got := hex.EncodeToString(p.All()); got != "ee"+c.want {
			t.Errorf("Fixed(%d, %d) wrote %s", c.size, c.n, got)
		}
	}
}

var compactSizes = []struct {
	n    uint64
	want string
}{
	{0, "00"},
	{1, "01"},
	{252, "fc"},
	{253, "fdfd00"},
	{255, "fdff00"},
	{65535, "fdffff"},
	{65536, "fe00000100"},
	{1<<32 - 1, "feffffffff"},
	{1 << 32, "ff0000000001000000"},
	{math.MaxUint64, "ffffffffffffffffff"},
}

// P1.1, P1.2, P1.3
func TestCompactSizes(t *testing.T) {
	for _, c := range compactSizes {
		var p octet.Pen
		if e := p.Size(c.n); e != api.OK {
			t.Error(c.n, e)
		}
		if got := hex.EncodeToString(p.All()); got != c.want {
			t.Errorf("Size(%d) wrote %s", c.n, got)
		}
		if got := octet.Compact(c.n); got != len(c.want)/2 || p.Len() != got {
			t.Errorf("Compact(%d) is %d, Len %d", c.n, got, p.Len())
		}
		eye := octet.Look(append(p.All(), 7))
		n, e := eye.Size()
		if n != c.n || e != api.OK || eye.Left() != 1 {
			t.Errorf("Size of %s: %d %d, left %d", c.want, n, e, eye.Left())
		}
		for cut := range p.Len() {
			eye := octet.Look(p.All()[:cut])
			if n, e := eye.Size(); n != 0 || e != api.ErrOctet || eye.Left() != cut {
				t.Errorf("Size of %d bytes of %s: %d %d", cut, c.want, n, e)
			}
		}
	}
}

// P1.2, P1.5: only the shortest encoding is valid
func TestLongSizes(t *testing.T) {
	for _, s := range []string{
		"fdfc00", "fd0000", "fd0100", "fefdff0000", "feffff0000", "fe00000000",
		"ffffffffff00000000", "ff0000000000000000", "ff0000010000000000",
	} {
		eye := octet.Look(unhex(t, s))
		if n, e := eye.Size(); n != 0 || e != api.ErrOctet || eye.Left() != len(s)/2 {
			t.Errorf("Size of %s: %d %d", s, n, e)
		}
		if b, e := eye.Bytes(math.MaxInt); b != nil || e != api.ErrOctet || eye.Left() != len(s)/2 {
			t.Errorf("Bytes of %s: %x %d", s, b, e)
		}
	}
}

// P1.1
func TestPenBytes(t *testing.T) {
	var p octet.Pen
	if p.Len() != 0 || len(p.All()) != 0 {
		t.Error("a new pen has bytes")
	}
	long := bytes.Repeat([]byte{9}, 253)
	for _, b := range [][]byte{nil, {}, {1, 2}, long} {
		if e := p.Bytes(b); e != api.OK {
			t.Error(e)
		}
	}
	want := append([]byte{0, 0, 2, 1, 2, 0xFD, 0xFD, 0}, long...)
	if !bytes.Equal(p.All(), want) || p.Len() != len(want) {
		t.Errorf("%x", p.All())
	}
}

// P1.1
func TestPenRaw(t *testing.T) {
	var p octet.Pen
	if p.Raw() != api.OK || p.Raw(nil, nil) != api.OK || p.Len() != 0 {
		t.Error("nothing was something")
	}
	if p.Raw([]byte{1, 2}, nil, []byte{3}) != api.OK || p.Raw([]byte{4}) != api.OK {
		t.Error("an error")
	}
	if !bytes.Equal(p.All(), []byte{1, 2, 3, 4}) || p.Len() != 4 {
		t.Errorf("%x", p.All())
	}
}

// P1.2
func TestEyeFixed(t *testing.T) {
	b := []byte{1, 2, 3, 4, 5, 6, 7, 8}
	for _, c := range []struct {
		size int
		n    uint64
		e    api.Errno
		left int
	}{
		{1, 1, api.OK, 7},
		{2, 0x0201, api.OK, 6},
		{4, 0x04030201, api.OK, 4},
		{8, 0x0807060504030201, api.OK, 0},
		{3, 0, api.ErrArg, 8},
		{0, 0, api.ErrArg, 8},
		{-4, 0, api.ErrArg, 8},
		{16, 0, api.ErrArg, 8},
	} {
		eye := octet.Look(b)
		if n, e := eye.Fixed(c.size); n != c.n || e != c.e || eye.Left() != c.left {
			t.Errorf("Fixed(%d): %d %d, left %d", c.size, n, e, eye.Left())
		}
	}
	for _, size := range []int{1, 2, 4, 8} {
		eye := octet.Look(b[:size-1])
		if n, e := eye.Fixed(size); n != 0 || e != api.ErrOctet || eye.Left() != size-1 {
			t.Errorf("Fixed(%d) of too few: %d %d", size, n, e)
		}
		if _, e := eye.Fixed(3); e != api.ErrArg {
			t.Error("ErrArg comes first", e)
		}
	}
}

// P1.2
func TestEyeBytes(t *testing.T) {
	for _, c := range []struct {
		from string
		most int
		e    api.Errno
		want string
		left int
	}{
		{"0261", 9, api.ErrOctet, "", 2},
		{"026162", 1, api.ErrOctet, "", 3},
		{"026162", 2, api.OK, "6162", 0},
		{"02616263", 2, api.OK, "6162", 1},
		{"00", 0, api.OK, "", 0},
		{"00", -1, api.ErrOctet, "", 1},
		{"0161", 0, api.ErrOctet, "", 2},
		{"", 9, api.ErrOctet, "", 0},
		{"fd", 9, api.ErrOctet, "", 1},
		{"fd0100aa", 9, api.ErrOctet, "", 4},
		{"ffffffffffffffffff00", math.MaxInt, api.ErrOctet, "", 10},
		{"feffffffff00", math.MaxInt, api.ErrOctet, "", 6},
	} {
		eye := octet.Look(unhex(t, c.from))
		b, e := eye.Bytes(c.most)
		if hex.EncodeToString(b) != c.want || e != c.e || eye.Left() != c.left {
			t.Errorf("Bytes(%d) of %s: %x %d, left %d", c.most, c.from, b, e, eye.Left())
		}
	}
}

// P1.2
func TestEyeRaw(t *testing.T) {
	eye := octet.Look([]byte{1, 2, 3})
	if b, e := eye.Raw(-1); b != nil || e != api.ErrArg {
		t.Error(b, e)
	}
	if b, e := eye.Raw(4); b != nil || e != api.ErrOctet {
		t.Error(b, e)
	}
	if b, e := eye.Raw(math.MaxInt); b != nil || e != api.ErrOctet {
		t.Error(b, e)
	}
	if b, e := eye.Raw(0); len(b) != 0 || e != api.OK || eye.Left() != 3 {
		t.Error(b, e)
	}
	if b, e := eye.Raw(2); !bytes.Equal(b, []byte{1, 2}) || e != api.OK || eye.Left() != 1 {
		t.Error(b, e)
	}
	if eye.End() != api.ErrOctet {
		t.Error("an end ahead of the end")
	}
	if b, e := eye.Raw(1); !bytes.Equal(b, []byte{3}) || e != api.OK || eye.Left() != 0 || eye.End() != api.OK {
		t.Error(b, e)
	}
	if b, e := eye.Raw(1); b != nil || e != api.ErrOctet {
		t.Error(b, e)
	}
	if empty := octet.Look(nil); empty.End() != api.OK || empty.Left() != 0 {
		t.Error("no bytes have no end")
	}
}

func TestNoPen(t *testing.T) {
	var p *octet.Pen
	if p.Fixed(3, 0) != api.ErrNil || p.Size(1) != api.ErrNil || p.Bytes(nil) != api.ErrNil || p.Raw() != api.ErrNil {
		t.Error("a nil pen writes")
	}
	if p.Len() != 0 || p.All() != nil {
		t.Error("a nil pen has written")
	}
}

func TestNoEye(t *testing.T) {
	for _, eye := range []*octet.Eye{nil, {}} {
		if n, e := eye.Fixed(3); n != 0 || e != api.ErrNil {
			t.Error(n, e)
		}
		if n, e := eye.Size(); n != 0 || e != api.ErrNil {
			t.Error(n, e)
		}
		if b, e := eye.Bytes(1); b != nil || e != api.ErrNil {
			t.Error(b, e)
		}
		if b, e := eye.Raw(-1); b != nil || e != api.ErrNil {
			t.Error(b, e)
		}
		if eye.Left() != 0 || eye.End() != api.ErrNil {
			t.Error("an eye on nothing")
		}
	}
}

// P1.4
func TestNothingIsShared(t *testing.T) {
	in := []byte{1, 2, 3}
	var p octet.Pen
	p.Raw(in)
	p.Bytes(in)
	eye := octet.Look(in)
	in[0] = 99
	out := p.All()
	if !bytes.Equal(out, []byte{1, 2, 3, 3, 1, 2, 3}) {
		t.Errorf("the pen kept its argument: %x", out)
	}
	out[0] = 88
	if p.All()[0] != 1 {
		t.Error("the pen gave its own bytes")
	}
	p.Raw([]byte{5})
	if out[0] != 88 || len(out) != 7 {
		t.Error("the pen wrote into what it gave")
	}
	first, _ := eye.Raw(1)
	if first[0] != 1 {
		t.Error("the eye kept its argument")
	}
	first = append(first, 77)
	if next, _ := eye.Raw(1); next[0] != 2 {
		t.Error("the eye gave its own bytes")
	}
}

// P1.5
func TestReadBack(t *testing.T) {
	r := rand.New(rand.NewSource(1))
	for range 200 {
		var p octet.Pen
		var checks []func(eye *octet.Eye) bool
		for range r.Intn(8) {
			n := r.Uint64() >> r.Intn(64)
			b := make([]byte, r.Intn(300))
			r.Read(b)
			switch r.Intn(4) {
			case 0:
				p.Fixed(8, n)
				checks = append(checks, func(eye *octet.Eye) bool { m, e := eye.Fixed(8); return e == api.OK && m == n })
			case 1:
				p.Size(n)
				checks = append(checks, func(eye *octet.Eye) bool { m, e := eye.Size(); return e == api.OK && m == n })
			case 2:
				p.Bytes(b)
				checks = append(checks, func(eye *octet.Eye) bool {
					c, e := eye.Bytes(len(b))
					return e == api.OK && bytes.Equal(b, c)
				})
			default:
				p.Raw(b)
				checks = append(checks, func(eye *octet.Eye) bool { c, e := eye.Raw(len(b)); return e == api.OK && bytes.Equal(b, c) })
			}
		}
		eye := octet.Look(p.All())
		if eye.Left() != p.Len() {
			t.Error(eye.Left(), p.Len())
		}
		for i, check := range checks {
			if !check(eye) {
				t.Error("not read back:", i)
			}
		}
		if eye.End() != api.OK {
			t.Error("bytes left over")
		}
	}
}

// P1.5: whatever decodes is what would be written
func TestOneEncoding(t *testing.T) {
	r := rand.New(rand.NewSource(2))
	for range 20000 {
		b := make([]byte, 1+r.Intn(9))
		r.Read(b)
		b[0] |= byte(0xF0 * r.Intn(2))
		if len(b) > 3 && r.Intn(2) == 0 {
			clear(b[3:])
		}
		eye := octet.Look(b)
		n, e := eye.Size()
		if e != api.OK {
			continue
		}
		var p octet.Pen
		p.Size(n)
		if !bytes.Equal(p.All(), b[:len(b)-eye.Left()]) {
			t.Errorf("%x was read as %d", b, n)
		}
	}
}
