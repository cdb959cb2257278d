package num_test

import (
	"bytes"
	"encoding/hex"
	"math"
	"math/rand"
	"testing"

	"purser/api"
	"purser/num"
)

const (
	most  = 1<<31 - 1
	most5 = 1<<39 - 1
)

func unhex(t *testing.T, s string) []byte {
	t.Helper()
	b, err := hex.DecodeString(s)
	if err != nil {
		t.Fatal(err)
	}
	return b
}

// P11.1
func TestEncode(t *testing.T) {
	for _, c := range []struct {
		n    int64
		want string
	}{
		{0, ""}, {1, "01"}, {-1, "81"}, {127, "7f"}, {-127, "ff"}, {128, "8000"}, {-128, "8080"}, {129, "8100"}, {255, "ff00"}, {-255, "ff80"},
		{256, "0001"}, {-256, "0081"}, {32767, "ff7f"}, {32768, "008000"}, {-32768, "008080"}, {65536, "000001"},
		{1<<23 - 1, "ffff7f"}, {1 << 23, "00008000"}, {most, "ffffff7f"}, {-most, "ffffffff"},
	} {
		if b, e := num.Encode(c.n); hex.EncodeToString(b) != c.want || e != api.OK {
			t.Errorf("Encode(%d): %x, %d", c.n, b, e)
		}
		if n, e := num.Decode(unhex(t, c.want)); n != c.n || e != api.OK {
			t.Errorf("Decode(%s): %d, %d", c.want, n, e)
		}
	}
	for _, c := range []struct {
		n    int64
		want string
	}{
		{most + 1, "0000008000"}, {-most - 1, "0000008080"}, {1 << 32, "0000000001"}, {most5, "ffffffff7f"}, {-most5, "ffffffffff"},
	} {
		if b, e := num.Encode(c.n); hex.EncodeToString(b) != c.want || e != api.OK {
			t.Errorf("Encode(%d): %x, %d", c.n, b, e)
		}
		if n, e := num.Decode(unhex(t, c.want)); n != 0 || e != api.ErrNum {
			t.Errorf("Decode(%s): %d, %d", c.want, n, e)
		}
	}
	for _, n := range []int64{most5 + 1, -most5 - 1, 1 << 40, math.MaxInt64, math.MinInt64} {
		if b, e := num.Encode(n); b != nil || e != api.ErrNum {
			t.Errorf("Encode(%d): %x, %d", n, b, e)
		}
	}
}

// P11.1
func TestDecodeAndTrue(t *testing.T) {
	for _, c := range []struct {
		b    string
		e    api.Errno
		true bool
	}{
		{"", api.OK, false},
		{"00", api.ErrNum, false},
		{"80", api.ErrNum, false},
		{"0080", api.ErrNum, false},
		{"0000", api.ErrNum, false},
		{"8000", api.OK, true},
		{"8080", api.OK, true},
		{"0100", api.ErrNum, true},
		{"0180", api.ErrNum, true},
		{"7f00", api.ErrNum, true},
		{"7f80", api.ErrNum, true},
		{"81", api.OK, true},
		{"ff7f00", api.ErrNum, true},
		{"ff8000", api.OK, true},
		{"00000000", api.ErrNum, false},
		{"00000080", api.ErrNum, false},
		{"0000000001", api.ErrNum, true},
		{"0000000000", api.ErrNum, false},
		{"000000000080", api.ErrNum, false},
		{"800000000000", api.ErrNum, true},
		{"000000000081", api.ErrNum, true},
	} {
		if n, e := num.Decode(unhex(t, c.b)); e != c.e || e != api.OK && n != 0 {
			t.Errorf("Decode(%s): %d, %d", c.b, n, e)
		}
		if got := num.True(unhex(t, c.b)); got != c.true {
			t.Errorf("True(%s) is %v", c.b, got)
		}
	}
	if num.True(nil) || num.True(make([]byte, 520)) || !num.True(append(make([]byte, 520), 1)) {
		t.Error("long sequences")
	}
}

// P11.1
func TestFlag(t *testing.T) {
	if !bytes.Equal(num.Flag(true), []byte{1}) || len(num.Flag(false)) != 0 {
		t.Error(num.Flag(true), num.Flag(false))
	}
}

// P11.4
func TestThereAndBack(t *testing.T) {
	r := rand.New(rand.NewSource(1))
	for range 20000 {
		n := (r.Int63n(2*most+1) - most) >> r.Intn(31)
		b, e := num.Encode(n)
		if back, f := num.Decode(b); back != n || e != api.OK || f != api.OK || num.True(b) != (n != 0) {
			t.Error(n, b, e, f)
		}
		b = make([]byte, r.Intn(6))
		r.Read(b)
		if n, e := num.Decode(b); e == api.OK {
			if again, e := num.Encode(n); !bytes.Equal(again, b) || e != api.OK {
				t.Errorf("Encode of Decode of %x: %x", b, again)
			}
		} else if len(b) > 0 && len(b) <= 4 && b[len(b)-1]&0x7F != 0 {
			t.Errorf("Decode(%x): %d", b, e)
		}
	}
}

var ones = map[byte]func(n int64) int64{
	api.Op1add: func(n int64) int64 { return n + 1 },
	api.Op1sub: func(n int64) int64 { return n - 1 },
	api.OpNegate: func(n int64) int64 {
		return 0 - n
	},
	api.OpAbs: func(n int64) int64 {
		if n < 0 {
			return -n
		}
		return n
	},
	api.OpNot:     func(n int64) int64 { return map[bool]int64{true: 1}[n == 0] },
	api.OpNonzero: func(n int64) int64 { return map[bool]int64{true: 1}[n != 0] },
}

var twos = map[byte]func(a, b int64) int64{
	api.OpAdd:     func(a, b int64) int64 { return a + b },
	api.OpSub:     func(a, b int64) int64 { return a - b },
	api.OpAnd:     func(a, b int64) int64 { return map[bool]int64{true: 1}[a != 0 && b != 0] },
	api.OpOr:      func(a, b int64) int64 { return map[bool]int64{true: 1}[a != 0 || b != 0] },
	api.OpNumeq:   func(a, b int64) int64 { return map[bool]int64{true: 1}[a == b] },
	api.OpNumeqv:  func(a, b int64) int64 { return map[bool]int64{true: 1}[a == b] },
	api.OpNumne:   func(a, b int64) int64 { return map[bool]int64{true: 1}[a != b] },
	api.OpLess:    func(a, b int64) int64 { return map[bool]int64{true: 1}[a < b] },
	api.OpGreater: func(a, b int64) int64 { return map[bool]int64{true: 1}[a > b] },
	api.OpMost:    func(a, b int64) int64 { return map[bool]int64{true: 1}[a <= b] },
	api.OpLeast:   func(a, b int64) int64 { return map[bool]int64{true: 1}[a >= b] },
	api.OpMin:     func(a, b int64) int64 { return min(a, b) },
	api.OpMax:     func(a, b int64) int64 { return max(a, b) },
}

var edges = []int64{0, 1, -1, 2, -2, 7, -7, 255, -256, most - 1, most, -most + 1, -most}

// P11.2
func TestOneAndTwo(t *testing.T) {
	for code := range 256 {
		code := byte(code)
		one, two := ones[code], twos[code]
		for _, a := range edges {
			want, wantErr := int64(0), api.ErrArg
			if one != nil {
				want, wantErr = one(a), api.OK
			}
			if got, e := num.One(code, a); got != want || e != wantErr {
				t.Errorf("One(%x, %d): %d, %d", code, a, got, e)
			}
			for _, b := range edges {
				want, wantErr = 0, api.ErrArg
				if two != nil {
					want, wantErr = two(a, b), api.OK
				}
				if got, e := num.Two(code, a, b); got != want || e != wantErr {
					t.Errorf("Two(%x, %d, %d): %d, %d", code, a, b, got, e)
				}
			}
		}
		for _, n := range []int64{most + 1, -most - 1, math.MaxInt64, math.MinInt64} {
			want := api.ErrArg
			if one != nil {
				want = api.ErrNum
			}
			if got, e := num.One(code, n); got != 0 || e != want {
				t.Errorf("One(%x, %d): %d, %d", code, n, got, e)
			}
			want = api.ErrArg
			if two != nil {
				want = api.ErrNum
			}
			if got, e := num.Two(code, n, 0); got != 0 || e != want {
				t.Errorf("Two(%x, %d, 0): %d, %d", code, n, got, e)
			}
			if got, e := num.Two(code, 0, n); got != 0 || e != want {
				t.Errorf("Two(%x, 0, %d): %d, %d", code, n, got, e)
			}
		}
	}
}

// P11.2
func TestArity(t *testing.T) {
	for code := range 256 {
		want := 0
		switch code := byte(code); {
		case ones[code] != nil:
			want = 1
		case twos[code] != nil:
			want = 2
		case code == api.OpWithin:
			want = 3
		}
		if got := num.Arity(byte(code)); got != want {
			t.Errorf("Arity(%x) is %d", code, got)
		}
	}
}

// P11.2
func TestWithin(t *testing.T) {
	for _, c := range []struct {
		n, from, to int64
		want        bool
	}{
		{5, 5, 6, true}, {5, 4, 5, false}, {4, 5, 6, false}, {5, 5, 5, false}, {5, 6, 4, false}, {-1, -2, 0, true}, {0, -2, 0, false},
		{math.MaxInt64, math.MinInt64, math.MaxInt64, false}, {math.MinInt64, math.MinInt64, math.MaxInt64, true},
	} {
		if got := num.Within(c.n, c.from, c.to); got != c.want {
			t.Error(c, got)
		}
	}
}

// P11.4
func TestRelations(t *testing.T) {
	for _, a := range edges {
		for _, b := range edges {
			less, _ := num.Two(api.OpLess, a, b)
			greater, _ := num.Two(api.OpGreater, a, b)
			equal, _ := num.Two(api.OpNumeq, a, b)
			if less+greater+equal != 1 {
				t.Error(a, b, less, greater, equal)
			}
		}
	}
}

// P11.3
func TestNothingIsShared(t *testing.T) {
	first := num.Flag(true)
	first[0] = 9
	if num.Flag(true)[0] != 1 {
		t.Error("Flag gives memory twice")
	}
	b := []byte{1, 2, 3}
	num.Decode(b)
	num.True(b)
	if !bytes.Equal(b, []byte{1, 2, 3}) {
		t.Error("an argument changed")
	}
}
