package sign_test

import (
	"bytes"
	"crypto/sha256"
	"math/rand"
	"slices"
	"testing"

	"purser/api"
	"purser/sign"
)

var (
	secret = api.Hash{1, 2, 3, 31: 4}
	digest = api.Hash{9, 8, 7, 31: 6}
)

func random(r *rand.Rand) (h api.Hash) {
	r.Read(h[:])
	return h
}

// P9.1
func TestPublicAndSign(t *testing.T) {
	r := rand.New(rand.NewSource(1))
	for range 100 {
		secret, digest := random(r), random(r)
		if got := sign.Public(secret); got != sha256.Sum256(secret[:]) {
			t.Error("Public", secret, got)
		}
		seal := sha256.Sum256(slices.Concat(secret[:], digest[:]))
		if got := sign.Sign(secret, digest); !bytes.Equal(got, slices.Concat(secret[:], seal[:])) {
			t.Errorf("Sign %x %x: %x", secret, digest, got)
		}
	}
}

// P9.2, P9.4
func TestIs(t *testing.T) {
	r := rand.New(rand.NewSource(2))
	for range 100 {
		secret, digest := random(r), random(r)
		public, sig := sign.Public(secret), sign.Sign(secret, digest)
		if !sign.Is(public[:], sig, digest) {
			t.Error("a signature does not verify")
		}
		if sign.Is(public[:], sig, random(r)) {
			t.Error("with another digest")
		}
		if sign.Is(public[:], sign.Sign(random(r), digest), digest) {
			t.Error("with another secret")
		}
		if other := sign.Public(random(r)); sign.Is(other[:], sig, digest) {
			t.Error("with another key")
		}
	}
}

// P9.2, P9.4
func TestEveryByteCounts(t *testing.T) {
	public, sig := sign.Public(secret), sign.Sign(secret, digest)
	for i := range sig {
		changed := slices.Clone(sig)
		changed[i] ^= 1 << (i % 8)
		if sign.Is(public[:], changed, digest) {
			t.Error("byte", i, "of the signature")
		}
	}
	for i := range public {
		key, other := public, digest
		key[i] ^= 1 << (i % 8)
		other[i] ^= 1 << (i % 8)
		if sign.Is(key[:], sig, digest) {
			t.Error("byte", i, "of the key")
		}
		if sign.Is(public[:], sig, other) {
			t.Error("byte", i, "of the digest")
		}
	}
	sealed := sha256.Sum256(slices.Concat(secret[:], digest[:]))
	wrong := random(rand.New(rand.NewSource(3)))
	if sign.Is(public[:], slices.Concat(wrong[:], sealed[:]), digest) {
		t.Error("a secret that is not the key's")
	}
}

// P9.2
func TestLengths(t *testing.T) {
	public, sig := sign.Public(secret), sign.Sign(secret, digest)
	for _, n := range []int{0, 1, 31} {
		if sign.Is(public[:n], sig, digest) {
			t.Error("a key of", n)
		}
	}
	for _, n := range []int{0, 1, 32, 63} {
		if sign.Is(public[:], sig[:n], digest) {
			t.Error("a signature of", n)
		}
	}
	if sign.Is(append(public[:], 0), sig, digest) || sign.Is(public[:], append(sig, 0), digest) {
		t.Error("more bytes")
	}
	if sign.Is(nil, nil, digest) || sign.Is(nil, sig, digest) || sign.Is(public[:], nil, digest) {
		t.Error("no bytes")
	}
}

// P9.3
func TestNothingIsShared(t *testing.T) {
	public, sig := sign.Public(secret), sign.Sign(secret, digest)
	room := append(slices.Clone(sig), "behind the signature, behind it"...)
	if !sign.Is(public[:], room[:64], digest) || !bytes.Equal(room[:64], sig) || string(room[64:]) != "behind the signature, behind it" {
		t.Error("Is writes into its argument")
	}
	sig[0] = 99
	if sign.Sign(secret, digest)[0] != 1 {
		t.Error("Sign gives memory twice")
	}
}
