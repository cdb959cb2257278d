package wide_test

import (
	"math"
	"math/big"
	"math/rand"
	"strings"
	"testing"

	"purser/api"
	"purser/wide"
)

var (
	one    = wide.Of(1)
	most   = api.Wide{math.MaxUint64, math.MaxUint64, math.MaxUint64, math.MaxUint64}
	modulo = new(big.Int).Lsh(big.NewInt(1), 256)
)

func toBig(a api.Wide) *big.Int {
	n := new(big.Int)
	for i := 3; i >= 0; i-- {
		n.Lsh(n, 64).Or(n, new(big.Int).SetUint64(a[i]))
	}
	return n
}

func isBig(a api.Wide, n *big.Int) bool { return toBig(a).Cmp(n) == 0 }

// numbers returns edges and random numbers of all lengths.
func numbers() []api.Wide {
	l := []api.Wide{{}, one, wide.Of(2), wide.Of(7), most, {math.MaxUint64}, {0, 1}, {0, 0, 1}, {0, 0, 0, 1}, {0, 0, 0, 1 << 63},
		{math.MaxUint64, math.MaxUint64}, {1, 0, 0, 1 << 63}, {math.MaxUint64, math.MaxUint64, math.MaxUint64}, {math.MaxUint64, 0, math.MaxUint64}}
	r := rand.New(rand.NewSource(1))
	for range 60 {
		a := api.Wide{r.Uint64(), r.Uint64(), r.Uint64(), r.Uint64()}
		l = append(l, wide.Right(a, r.Intn(256)))
	}
	return l
}

// P3.1
func TestBytes(t *testing.T) {
	a := api.Wide{0x0807060504030201, 0x100F0E0D0C0B0A09, 0x1817161514131211, 0x201F1E1D1C1B1A19}
	b := wide.Bytes(a)
	if len(b) != 32 {
		t.Fatal(len(b))
	}
	for i := range b {
		if b[i] != byte(i+1) {
			t.Errorf("byte %d is %02X", i, b[i])
		}
	}
	if got, e := wide.Read(b); got != a || e != api.OK {
		t.Error(got, e)
	}
	for _, n := range []int{0, 1, 31, 33, 64} {
		if got, e := wide.Read(make([]byte, n)); got != (api.Wide{}) || e != api.ErrWide {
			t.Error(n, got, e)
		}
	}
	if got, e := wide.Read(append(b, 1)[:33]); got != (api.Wide{}) || e != api.ErrWide {
		t.Error(got, e)
	}
}

// P3.1
func TestDigits(t *testing.T) {
	for _, c := range []struct {
		a api.Wide
		s string
	}{
		{api.Wide{}, strings.Repeat("0", 64)},
		{wide.Of(255), strings.Repeat("0", 62) + "ff"},
		{most, strings.Repeat("f", 64)},
		{api.Wide{0xfedcba9876543210, 0x0123456789abcdef, 1, 1 << 60}, "1000000000000000" + "0000000000000001" + "0123456789abcdef" + "fedcba9876543210"},
	} {
		if got := wide.Digits(c.a); got != c.s {
			t.Errorf("Digits: %s, not %s", got, c.s)
		}
		if got, e := wide.Parse(c.s); got != c.a || e != api.OK {
			t.Errorf("Parse(%s): %v, %d", c.s, got, e)
		}
	}
	zeros := strings.Repeat("0", 63)
	for _, s := range []string{"", "0", zeros, zeros + "00", zeros + "A", zeros + "F", zeros + "g", zeros + "/", zeros + ":", zeros + "`", "x" + zeros, " " + zeros, "+" + zeros, zeros + "\xff", strings.Repeat("é", 32)} {
		if got, e := wide.Parse(s); got != (api.Wide{}) || e != api.ErrWide {
			t.Errorf("Parse(%q): %v, %d", s, got, e)
		}
	}
}

// P3.1, P3.7
func TestThereAndBack(t *testing.T) {
	for _, a := range numbers() {
		if b, e := wide.Read(wide.Bytes(a)); b != a || e != api.OK {
			t.Error("bytes", a, b, e)
		}
		if b, e := wide.Parse(wide.Digits(a)); b != a || e != api.OK {
			t.Error("digits", a, b, e)
		}
		if n, _ := new(big.Int).SetString(wide.Digits(a), 16); !isBig(a, n) {
			t.Error("digits", a, n)
		}
		if wide.Of(a[0]) != (api.Wide{a[0], 0, 0, 0}) {
			t.Error("Of", a[0])
		}
	}
}

// P3.2
func TestCompareAndLen(t *testing.T) {
	for _, a := range numbers() {
		if got, want := wide.Len(a), toBig(a).BitLen(); got != want {
			t.Errorf("Len(%v) is %d, not %d", a, got, want)
		}
		for _, b := range numbers() {
			if got, want := wide.Compare(a, b), toBig(a).Cmp(toBig(b)); got != want {
				t.Errorf("Compare(%v, %v) is %d, not %d", a, b, got, want)
			}
		}
	}
}

// P3.3, P3.7
func TestAddSubMul(t *testing.T) {
	if sum, over := wide.Add(most, one); sum != (api.Wide{}) || !over {
		t.Error(sum, over)
	}
	if difference, under := wide.Sub(api.Wide{}, one); difference != most || !under {
		t.Error(difference, under)
	}
	if low, high := wide.Mul(api.Wide{0, 0, 1}, api.Wide{0, 0, 1}); low != (api.Wide{}) || high != one {
		t.Error(low, high)
	}
	if low, high := wide.Mul(wide.Of(math.MaxUint64), wide.Of(math.MaxUint64)); low != (api.Wide{1, math.MaxUint64 - 1}) || high != (api.Wide{}) {
		t.Error(low, high)
	}
	for _, a := range numbers() {
		for _, b := range numbers() {
			sum, over := wide.Add(a, b)
			want := new(big.Int).Add(toBig(a), toBig(b))
			if over != (want.Cmp(modulo) >= 0) || !isBig(sum, want.Mod(want, modulo)) {
				t.Error("Add", a, b, sum, over)
			}
			difference, under := wide.Sub(a, b)
			want.Sub(toBig(a), toBig(b))
			if under != (want.Sign() < 0) || !isBig(difference, want.Mod(want, modulo)) {
				t.Error("Sub", a, b, difference, under)
			}
			if back, _ := wide.Add(difference, b); back != a {
				t.Error("Sub is not undone", a, b)
			}
			low, high := wide.Mul(a, b)
			want.Mul(toBig(a), toBig(b))
			if got := new(big.Int).Lsh(toBig(high), 256); got.Add(got, toBig(low)).Cmp(want) != 0 {
				t.Error("Mul", a, b, low, high)
			}
		}
	}
}

// P3.4, P3.7
func TestDiv(t *testing.T) {
	if q, r, e := wide.Div(wide.Of(100), wide.Of(7)); q != wide.Of(14) || r != wide.Of(2) || e != api.OK {
		t.Error(q, r, e)
	}
	if q, r, e := wide.Div(one, api.Wide{}); q != (api.Wide{}) || r != (api.Wide{}) || e != api.ErrWide {
		t.Error(q, r, e)
	}
	if q, r, e := wide.Div(api.Wide{}, api.Wide{}); q != (api.Wide{}) || r != (api.Wide{}) || e != api.ErrWide {
		t.Error(q, r, e)
	}
	for _, a := range numbers() {
		for _, b := range numbers() {
			if b == (api.Wide{}) {
				continue
			}
			q, r, e := wide.Div(a, b)
			wantQ, wantR := new(big.Int).QuoRem(toBig(a), toBig(b), new(big.Int))
			if e != api.OK || !isBig(q, wantQ) || !isBig(r, wantR) {
				t.Error("Div", a, b, q, r, e)
			}
			low, high := wide.Mul(q, b)
			if back, over := wide.Add(low, r); back != a || over || high != (api.Wide{}) || wide.Compare(r, b) >= 0 {
				t.Error("Div is not undone", a, b, q, r)
			}
		}
	}
}

// P3.5, P3.7
func TestShifts(t *testing.T) {
	top := api.Wide{0, 0, 0, 1 << 63}
	if wide.Left(one, 255) != top || wide.Right(top, 254) != wide.Of(2) || wide.Len(top) != 256 {
		t.Error("the chapter's example")
	}
	for _, a := range numbers() {
		for _, n := range []int{-1, math.MinInt, 0} {
			if wide.Left(a, n) != a || wide.Right(a, n) != a {
				t.Error("a shift by", n)
			}
		}
		for _, n := range []int{256, 257, 320, 512, math.MaxInt} {
			if wide.Left(a, n) != (api.Wide{}) || wide.Right(a, n) != (api.Wide{}) {
				t.Error("a shift by", n)
			}
		}
		for n := range 256 {
			want := new(big.Int).Lsh(toBig(a), uint(n))
			if got := wide.Left(a, n); !isBig(got, want.Mod(want, modulo)) {
				t.Error("Left", a, n, got)
			}
			if got := wide.Right(a, n); !isBig(got, want.Rsh(toBig(a), uint(n))) {
				t.Error("Right", a, n, got)
			}
		}
		if sum, over := wide.Add(a, wide.Not(a)); sum != most || over {
			t.Error("Not", a)
		}
	}
}

// P3.6
func TestNothingIsShared(t *testing.T) {
	b := make([]byte, 32)
	b[0] = 5
	a, _ := wide.Read(b)
	b[0] = 6
	if a != wide.Of(5) {
		t.Error("Read kept its argument")
	}
	first, second := wide.Bytes(a), wide.Bytes(a)
	first[0] = 9
	if second[0] != 5 || a != wide.Of(5) {
		t.Error("Bytes gave memory twice")
	}
}
