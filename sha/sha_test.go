package sha_test

import (
	"bytes"
	"crypto/sha256"
	"encoding/hex"
	"math/big"
	"math/rand"
	"strings"
	"testing"

	"purser/api"
	"purser/sha"
)

func random(n int) []byte {
	b := make([]byte, n)
	rand.New(rand.NewSource(int64(n))).Read(b)
	return b
}

// rootIsExact tells whether the root with that fraction is the greatest one that is not too great.
func rootIsExact(prime int64, power int64, entry uint32) bool {
	limit := new(big.Int).Lsh(big.NewInt(prime), uint(32*power))
	for whole := int64(0); whole*whole <= prime; whole++ {
		r := big.NewInt(whole<<32 | int64(entry))
		next := new(big.Int).Add(r, big.NewInt(1))
		r.Exp(r, big.NewInt(power), nil)
		next.Exp(next, big.NewInt(power), nil)
		if r.Cmp(limit) <= 0 && next.Cmp(limit) > 0 {
			return true
		}
	}
	return false
}

// P4.1, P4.4
func TestRoots(t *testing.T) {
	square, cube := sha.Roots()
	if len(square) != 8 || len(cube) != 64 || square[0] != 0x6a09e667 || cube[0] != 0x428a2f98 {
		t.Fatal(len(square), len(cube), square, cube)
	}
	prime := int64(1)
	for i := range cube {
		for prime++; !big.NewInt(prime).ProbablyPrime(0); prime++ {
		}
		if !rootIsExact(prime, 3, cube[i]) {
			t.Errorf("cube root of %d: %08x", prime, cube[i])
		}
		if i < 8 && !rootIsExact(prime, 2, square[i]) {
			t.Errorf("square root of %d: %08x", prime, square[i])
		}
	}
}

// P4.1
func TestPublished(t *testing.T) {
	for _, c := range []struct{ message, want string }{
		{"", "e3b0c44298fc1c149afbf4c8996fb92427ae41e4649b934ca495991b7852b855"},
		{"abc", "ba7816bf8f01cfea414140de5dae2223b00361a396177a9cb410ff61f20015ad"},
		{"abcdbcdecdefdefgefghfghighijhijkijkljklmklmnlmnomnopnopq", "248d6a61d20638b8e5c026930c3e6039a33ce45964ff2167f6ecedd419db06c1"},
		{strings.Repeat("a", 1000000), "cdc76e5c9914fb9281a1c7e284d73e67f1809a48a497200e046d39ccc7112cd0"},
	} {
		hash := sha.Of([]byte(c.message))
		if got := hex.EncodeToString(hash[:]); got != c.want {
			t.Errorf("Of(%.60q) is %s", c.message, got)
		}
	}
}

// P4.1
func TestAgainstTheLibrary(t *testing.T) {
	for n := range 400 {
		b := random(n)
		once := sha256.Sum256(b)
		twice := sha256.Sum256(once[:])
		if sha.Of(b) != once {
			t.Error("Of", n)
		}
		if sha.Twice(b) != twice {
			t.Error("Twice", n)
		}
		if got := sha.Short(b); !bytes.Equal(got, twice[:20]) {
			t.Errorf("Short %d: %x", n, got)
		}
	}
}

// P4.2, P4.4
func TestPieces(t *testing.T) {
	b := random(300)
	want := sha.Of(b)
	r := rand.New(rand.NewSource(1))
	for range 300 {
		s := sha.New()
		for at := 0; at < len(b); {
			n := min(r.Intn(130), len(b)-at)
			if s.Write(b[at:at+n]) != s {
				t.Fatal("Write returns another Sum")
			}
			at += n
			if s.Len() != uint64(at) {
				t.Fatal("Len", s.Len(), at)
			}
			if s.End() != sha.Of(b[:at]) {
				t.Fatal("End", at)
			}
		}
		if s.End() != want || s.End() != want {
			t.Fatal("End changes the Sum")
		}
	}
	if s := sha.New().Write(nil).Write([]byte{}); s.Len() != 0 || s.End() != sha.Of(nil) {
		t.Error("nothing was something")
	}
}

// P4.2
func TestCopy(t *testing.T) {
	s := sha.New().Write([]byte("ab"))
	c := s.Copy()
	if c == s || c.Len() != 2 || c.End() != s.End() {
		t.Error("a copy is another one")
	}
	s.Write([]byte("c"))
	c.Write([]byte("xyz"))
	if s.End() != sha.Of([]byte("abc")) || c.End() != sha.Of([]byte("abxyz")) || s.Len() != 3 || c.Len() != 5 {
		t.Error("a copy is not independent")
	}
}

// P4.2
func TestNoSum(t *testing.T) {
	for _, s := range []*sha.Sum{nil, {}} {
		if s.Write([]byte("a")) != nil || s.Copy() != nil || s.Len() != 0 || s.End() != (api.Hash{}) {
			t.Error("no Sum sums")
		}
	}
}

// P4.3
func TestNothingIsShared(t *testing.T) {
	b := []byte("some message")
	want := sha.Of(b)
	s := sha.New().Write(b)
	if string(b) != "some message" {
		t.Error("Write changes its argument")
	}
	b[0] = 'x'
	if s.End() != want {
		t.Error("Write keeps its argument")
	}
	square, cube := sha.Roots()
	square[0], cube[0] = 0, 0
	again, more := sha.Roots()
	if again[0] == 0 || more[0] == 0 || sha.Of([]byte("some message")) != want {
		t.Error("Roots gives its own tables")
	}
	short := sha.Short(b)
	if short = append(short, 1); len(short) != 21 || sha.Short(b)[0] != short[0] {
		t.Error("Short gives memory twice")
	}
}
