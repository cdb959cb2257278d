package crc_test

import (
	"bytes"
	"hash/crc32"
	"math/rand"
	"testing"

	"purser/api"
	"purser/crc"
)

func upTo32(from, step int) []byte {
	b := make([]byte, 32)
	for i := range b {
		b[i] = byte(from + i*step)
	}
	return b
}

// P2.1
func TestPublished(t *testing.T) {
	for _, c := range []struct {
		b    []byte
		want uint32
	}{
		{[]byte("123456789"), 0xE3069283},
		{nil, 0},
		{[]byte{}, 0},
		{make([]byte, 32), 0x8A9136AA},
		{bytes.Repeat([]byte{0xFF}, 32), 0x62A8AB43},
		{upTo32(0, 1), 0x46DD794E},
		{upTo32(31, -1), 0x113FDB5C},
	} {
		if got := crc.Sum(c.b); got != c.want {
			t.Errorf("Sum(%x) is %08X, not %08X", c.b, got, c.want)
		}
	}
	if crc.Sum() != 0 {
		t.Error("no parts have a sum")
	}
}

// P2.1
func TestAgainstTheLibrary(t *testing.T) {
	r := rand.New(rand.NewSource(1))
	table := crc32.MakeTable(crc32.Castagnoli)
	for n := range 300 {
		b := make([]byte, n)
		r.Read(b)
		want := crc32.Checksum(b, table)
		if got := crc.Sum(b); got != want {
			t.Errorf("Sum(%x) is %08X, not %08X", b, got, want)
		}
		start := r.Uint32()
		if got, want := crc.On(start, b), crc32.Update(start, table, b); got != want {
			t.Errorf("On(%08X, %x) is %08X, not %08X", start, b, got, want)
		}
	}
}

// P2.4
func TestParts(t *testing.T) {
	r := rand.New(rand.NewSource(2))
	b := make([]byte, 100)
	r.Read(b)
	want := crc.Sum(b)
	for i := range len(b) + 1 {
		j := i + r.Intn(len(b)-i+1)
		if got := crc.Sum(b[:i], b[i:j], nil, b[j:]); got != want {
			t.Errorf("divided at %d and %d: %08X", i, j, got)
		}
		if got := crc.On(crc.Sum(b[:i]), b[i:]); got != want {
			t.Errorf("On at %d: %08X", i, got)
		}
	}
}

// P2.2
func TestMark(t *testing.T) {
	for _, c := range []struct{ from, want string }{
		{"123456789", "123456789\x83\x92\x06\xE3"},
		{"", "\x00\x00\x00\x00"},
	} {
		if got := crc.Mark([]byte(c.from)); string(got) != c.want {
			t.Errorf("Mark(%q) is %q", c.from, got)
		}
	}
}

// P2.2
func TestBare(t *testing.T) {
	for _, s := range []string{"", "a", "ab", "\x00", "a longer text than the others"} {
		if b, e := crc.Bare(crc.Mark([]byte(s))); string(b) != s || e != api.OK {
			t.Errorf("%q became %q, %d", s, b, e)
		}
	}
	for _, b := range [][]byte{nil, {0}, {0, 0}, {0, 0, 0}, {0, 0, 0, 1}, []byte("abcd"), {0, 0, 0, 0, 0}} {
		if got, e := crc.Bare(b); got != nil || e != api.ErrSum {
			t.Errorf("Bare(%x): %x, %d", b, got, e)
		}
	}
}

// P2.3
func TestNothingIsShared(t *testing.T) {
	room := []byte("ab----")
	marked := crc.Mark(room[:2])
	if string(room) != "ab----" {
		t.Error("Mark wrote behind its argument")
	}
	marked[0] = 'x'
	if room[0] != 'a' {
		t.Error("Mark gave its argument's memory")
	}
	marked = crc.Mark([]byte("ab"))
	bare, _ := crc.Bare(marked)
	bare = append(bare, "!!!!"...)
	bare[0] = 'x'
	if string(marked) != string(crc.Mark([]byte("ab"))) {
		t.Error("Bare gave its argument's memory")
	}
}

// P2.4: bits inverted within 32 consecutive ones are always detected
func TestDamage(t *testing.T) {
	r := rand.New(rand.NewSource(3))
	marked := crc.Mark([]byte("some bytes that bear a sum"))
	for first := range len(marked)*8 - 31 {
		for range 20 {
			flips := r.Uint32() | 1
			if r.Intn(3) == 0 {
				flips = 1 << r.Intn(32)
			}
			b := bytes.Clone(marked)
			for i := range 32 {
				b[(first+i)/8] ^= byte(flips>>i&1) << ((first + i) % 8)
			}
			if got, e := crc.Bare(b); got != nil || e != api.ErrSum {
				t.Errorf("flips %08X at %d were not seen", flips, first)
			}
		}
	}
}
