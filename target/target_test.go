package target_test

import (
	"math"
	"math/big"
	"math/rand"
	"testing"

	"purser/api"
	"purser/target"
	"purser/wide"
)

var (
	none   api.Wide
	most   = wide.Not(none)
	modulo = new(big.Int).Lsh(big.NewInt(1), 256)
)

func toBig(a api.Wide) *big.Int {
	n, _ := new(big.Int).SetString(wide.Digits(a), 16)
	return n
}

func shifted(n uint64, by int) api.Wide { return wide.Left(wide.Of(n), by) }

func random(r *rand.Rand) api.Wide {
	return wide.Right(api.Wide{r.Uint64(), r.Uint64(), r.Uint64(), r.Uint64()}, r.Intn(256))
}

// P5.1
func TestExpand(t *testing.T) {
	for _, c := range []struct {
		compact uint32
		want    api.Wide
		e       api.Errno
	}{
		{0x1D00FFFF, shifted(0xFFFF, 208), api.OK},
		{0x04123456, wide.Of(0x12345600), api.OK},
		{0x207FFFFF, shifted(0x7FFFFF, 232), api.OK},
		{0x21008000, shifted(1, 255), api.OK},
		{0x2100FFFF, shifted(0xFFFF, 240), api.OK},
		{0x01010000, wide.Of(1), api.OK},
		{0x017F0000, wide.Of(0x7F), api.OK},
		{0x02008000, wide.Of(128), api.OK},
		{0x02123400, wide.Of(0x1234), api.OK},
		{0x03123456, wide.Of(0x123456), api.OK},
		{0x04923456, none, api.ErrTarget}, // the sign bit
		{0x04800000, none, api.ErrTarget},
		{0x20FFFFFF, none, api.ErrTarget},
		{0x01003456, none, api.ErrTarget}, // no number
		{0x01123456, none, api.ErrTarget}, // more than the number
		{0x02123456, none, api.ErrTarget},
		{0x00123456, none, api.ErrTarget},
		{0, none, api.ErrTarget},
		{0x20000000, none, api.ErrTarget},
		{0x20007FFF, none, api.ErrTarget}, // not the shortest
		{0x03001234, none, api.ErrTarget},
		{0x22000080, none, api.ErrTarget}, // not the shortest either
		{0x21010000, none, api.ErrTarget}, // 2^256
		{0x22000100, none, api.ErrTarget},
		{0x217FFFFF, none, api.ErrTarget},
		{0x23000001, none, api.ErrTarget},
		{0xFF7FFFFF, none, api.ErrTarget},
		{0xFF000001, none, api.ErrTarget},
	} {
		if got, e := target.Expand(c.compact); got != c.want || e != c.e {
			t.Errorf("Expand(%08X): %s, %d", c.compact, wide.Digits(got), e)
		}
	}
}

// P5.1
func TestCompact(t *testing.T) {
	for _, c := range []struct {
		from api.Wide
		want uint32
		e    api.Errno
	}{
		{none, 0, api.ErrTarget},
		{wide.Of(1), 0x01010000, api.OK},
		{wide.Of(127), 0x017F0000, api.OK},
		{wide.Of(128), 0x02008000, api.OK},
		{wide.Of(0x7FFF), 0x027FFF00, api.OK},
		{wide.Of(0x8000), 0x03008000, api.OK},
		{wide.Of(0x7FFFFF), 0x037FFFFF, api.OK},
		{wide.Of(0x800000), 0x04008000, api.OK},
		{wide.Of(0x8000FF), 0x04008000, api.OK},
		{wide.Of(0x123456789A), 0x05123456, api.OK},
		{wide.Of(0x100000), 0x03100000, api.OK},
		{shifted(0x80, 248), 0x21008000, api.OK},
		{most, 0x2100FFFF, api.OK},
		{shifted(0x7FFFFF, 232), 0x207FFFFF, api.OK},
	} {
		if got, e := target.Compact(c.from); got != c.want || e != c.e {
			t.Errorf("Compact(%s): %08X, %d", wide.Digits(c.from), got, e)
		}
	}
}

// P5.5
func TestCompactCutsOff(t *testing.T) {
	r := rand.New(rand.NewSource(1))
	for range 5000 {
		n := random(r)
		if n == none {
			continue
		}
		compact, e := target.Compact(n)
		cut, f := target.Expand(compact)
		if e != api.OK || f != api.OK || wide.Compare(cut, n) > 0 {
			t.Fatal(wide.Digits(n), compact, e, f)
		}
		if same, e := target.Compact(cut); same != compact || e != api.OK {
			t.Error("not its own compact form", compact, same)
		}
		size := int(compact >> 24)
		next := new(big.Int).Lsh(big.NewInt(int64(compact&0x7FFFFF+1)), uint(8*size))
		if next.Rsh(next, 24); size >= 3 && next.Cmp(toBig(n)) <= 0 {
			t.Error("a greater mantissa would do", wide.Digits(n), compact)
		}
	}
}

// P5.1, P5.5: a compact target is valid exactly if it is its number's compact form
func TestValid(t *testing.T) {
	r := rand.New(rand.NewSource(2))
	for range 20000 {
		compact := uint32(r.Intn(0x26))<<24 | r.Uint32()>>8>>r.Intn(24)
		n := new(big.Int).Lsh(big.NewInt(int64(compact&0x7FFFFF)), uint(8*(compact>>24)))
		n.Rsh(n, 24)
		length := (n.BitLen() + 7) / 8
		first := new(big.Int).Rsh(n, uint(8*max(length-1, 0))).Int64()
		want := compact&0x800000 == 0 && n.Sign() > 0 && n.BitLen() <= 256
		if first >= 0x80 {
			length++
		}
		want = want && length == int(compact>>24)
		back := new(big.Int).Lsh(n, 24)
		want = want && back.Rsh(back, uint(8*length)).Int64() == int64(compact&0xFFFFFF)
		if got, e := target.Expand(compact); (e == api.OK) != want || want && toBig(got).Cmp(n) != 0 {
			t.Errorf("Expand(%08X): %s, %d, not %v", compact, wide.Digits(got), e, want)
		}
	}
}

// P5.2
func TestWork(t *testing.T) {
	for _, c := range []struct {
		compact uint32
		want    uint64
	}{{0x1D00FFFF, 4295032833}, {0x207FFFFF, 2}} {
		number, _ := target.Expand(c.compact)
		if got, e := target.Work(number); got != wide.Of(c.want) || e != api.OK {
			t.Errorf("Work of %08X: %v, %d", c.compact, got, e)
		}
	}
	if got, e := target.Work(none); got != none || e != api.ErrTarget {
		t.Error(got, e)
	}
	if got, e := target.Work(most); got != wide.Of(1) || e != api.OK {
		t.Error(got, e)
	}
	if got, e := target.Work(wide.Of(1)); got != shifted(1, 255) || e != api.OK {
		t.Error(got, e)
	}
	r := rand.New(rand.NewSource(3))
	least, before := most, none
	for range 1000 {
		n := random(r)
		if n == none {
			continue
		}
		want := new(big.Int).Quo(modulo, new(big.Int).Add(toBig(n), big.NewInt(1)))
		got, e := target.Work(n)
		if e != api.OK || toBig(got).Cmp(want) != 0 {
			t.Error("Work", wide.Digits(n), wide.Digits(got), e)
		}
		if wide.Compare(n, before) > 0 && wide.Compare(got, least) > 0 {
			t.Error("a greater target has greater work", wide.Digits(n))
		}
		before, least = n, got
	}
}

// P5.2
func TestSum(t *testing.T) {
	for _, c := range []struct {
		works []api.Wide
		want  api.Wide
	}{
		{nil, none},
		{[]api.Wide{wide.Of(3)}, wide.Of(3)},
		{[]api.Wide{wide.Of(3), wide.Of(4), {0, 1}}, api.Wide{7, 1}},
		{[]api.Wide{most, none}, most},
		{[]api.Wide{wide.Not(wide.Of(1)), wide.Of(1)}, most},
		{[]api.Wide{most, wide.Of(1)}, most},
		{[]api.Wide{most, wide.Of(1), wide.Of(9)}, most},
		{[]api.Wide{most, most, most}, most},
	} {
		if got := target.Sum(c.works...); got != c.want {
			t.Error(c.works, got)
		}
	}
}

// P5.2
func TestBelow(t *testing.T) {
	low := api.Hash{1}
	high := api.Hash{31: 1}
	for _, c := range []struct {
		h    api.Hash
		t    api.Wide
		want bool
	}{
		{low, wide.Of(1), true},
		{low, wide.Of(2), true},
		{low, none, false},
		{api.Hash{}, none, true},
		{api.Hash{2}, wide.Of(1), false},
		{high, shifted(1, 248), true},
		{high, wide.Not(shifted(0xFF, 248)), false},
		{api.Hash{1, 31: 1}, shifted(1, 248), false},
		{api.Hash(wide.Bytes(most)), most, true},
	} {
		if got := target.Below(c.h, c.t); got != c.want {
			t.Errorf("Below(%x, %s) is %v", c.h, wide.Digits(c.t), got)
		}
	}
}

// P5.3
func TestScale(t *testing.T) {
	const top = 1 << 40
	for _, c := range []struct {
		t      api.Wide
		by, of uint64
		most   api.Wide
		want   api.Wide
		e      api.Errno
	}{
		{wide.Of(100), 3, 4, most, wide.Of(75), api.OK},
		{wide.Of(100), 1, 3, most, wide.Of(33), api.OK},
		{wide.Of(100), 3, 1, wide.Of(200), wide.Of(200), api.OK},
		{wide.Of(100), 2, 1, wide.Of(200), wide.Of(200), api.OK},
		{wide.Of(1), 1, 2, most, wide.Of(1), api.OK},
		{wide.Of(1), 1, top, wide.Of(1), wide.Of(1), api.OK},
		{most, top, top, most, most, api.OK},
		{most, 2, 1, most, most, api.OK},
		{most, top, 1, wide.Of(5), wide.Of(5), api.OK},
		{most, 3, 6, most, wide.Right(most, 1), api.OK},
		{shifted(1, 255), 4, 2, most, most, api.OK},
		{none, 1, 1, most, none, api.ErrTarget},
		{wide.Of(1), 1, 1, none, none, api.ErrTarget},
		{wide.Of(1), 0, 1, most, none, api.ErrTarget},
		{wide.Of(1), 1, 0, most, none, api.ErrTarget},
		{wide.Of(1), top + 1, 1, most, none, api.ErrTarget},
		{wide.Of(1), 1, top + 1, most, none, api.ErrTarget},
		{wide.Of(1), math.MaxUint64, math.MaxUint64, most, none, api.ErrTarget},
	} {
		if got, e := target.Scale(c.t, c.by, c.of, c.most); got != c.want || e != c.e {
			t.Errorf("Scale(%s, %d, %d): %s, %d", wide.Digits(c.t), c.by, c.of, wide.Digits(got), e)
		}
	}
	r := rand.New(rand.NewSource(4))
	for range 3000 {
		n, limit := random(r), random(r)
		by, of := 1+r.Uint64()>>24>>r.Intn(40), 1+r.Uint64()>>24>>r.Intn(40)
		if n == none || limit == none {
			continue
		}
		want := new(big.Int).Mul(toBig(n), new(big.Int).SetUint64(by))
		want.Quo(want, new(big.Int).SetUint64(of))
		if want.Sign() == 0 {
			want.SetInt64(1)
		}
		if want.Cmp(toBig(limit)) > 0 {
			want = toBig(limit)
		}
		if got, e := target.Scale(n, by, of, limit); e != api.OK || toBig(got).Cmp(want) != 0 {
			t.Errorf("Scale(%s, %d, %d, %s): %s, %d", wide.Digits(n), by, of, wide.Digits(limit), wide.Digits(got), e)
		}
	}
}

// P5.4
func TestArgumentsStay(t *testing.T) {
	works := []api.Wide{wide.Of(1), wide.Of(2)}
	if target.Sum(works...) != wide.Of(3) || works[0] != wide.Of(1) || works[1] != wide.Of(2) {
		t.Error("Sum changes its arguments")
	}
}
