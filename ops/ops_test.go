package ops_test

import (
	"bytes"
	"encoding/hex"
	"math/rand"
	"slices"
	"testing"

	"purser/api"
	"purser/ops"
)

func unhex(t *testing.T, s string) []byte {
	t.Helper()
	b, err := hex.DecodeString(s)
	if err != nil {
		t.Fatal(err)
	}
	return b
}

func data(n int) []byte { return bytes.Repeat([]byte{0x61}, n) }

func op(code byte, data ...byte) api.Op { return api.Op{Code: code, Data: data} }

// P10.1
func TestSplit(t *testing.T) {
	for _, c := range []struct {
		script string
		l      []api.Op
	}{
		{"", nil},
		{"0261626100", []api.Op{op(2, 0x61, 0x62), op(api.OpNop), op(api.Op0)}},
		{"4c026162", []api.Op{op(api.OpPush1, 0x61, 0x62)}},
		{"4c00", []api.Op{op(api.OpPush1)}},
		{"4d0000", []api.Op{op(api.OpPush2)}},
		{"4d0100614e", []api.Op{op(api.OpPush2, 0x61), op(0x4E)}},
		{"4f50515260ffac", []api.Op{op(api.OpMinus), op(0x50), op(api.OpOne), op(0x52), op(api.OpSixteen), op(0xFF), op(api.OpSig)}},
		{"4b" + hex.EncodeToString(data(75)), []api.Op{op(75, data(75)...)}},
		{"4cff" + hex.EncodeToString(data(255)), []api.Op{op(api.OpPush1, data(255)...)}},
		{"4d0201" + hex.EncodeToString(data(258)) + "51", []api.Op{op(api.OpPush2, data(258)...), op(api.OpOne)}},
		{"4dffff" + hex.EncodeToString(data(65535)), []api.Op{op(api.OpPush2, data(65535)...)}},
	} {
		got, e := ops.Split(unhex(t, c.script))
		if e != api.OK || !ops.Same(got, c.l) {
			t.Errorf("Split(%.80s): %v, %d", c.script, got, e)
		}
		if back, e := ops.Join(c.l); e != api.OK || hex.EncodeToString(back) != c.script {
			t.Errorf("Join to %.80s: %x, %d", c.script, back, e)
		}
	}
	for _, s := range []string{
		"0261", "01", "4b", "4c", "4c01", "4c0261", "4d", "4d01", "4d0100", "4d020061", "4d0001" + hex.EncodeToString(data(255)),
		"5102", "61614c", "016102", "4b" + hex.EncodeToString(data(74)), "4dffff" + hex.EncodeToString(data(65534)),
	} {
		if got, e := ops.Split(unhex(t, s)); got != nil || e != api.ErrOps {
			t.Errorf("Split(%.80s): %v, %d", s, got, e)
		}
	}
}

// P10.1
func TestJoinOfWrongOnes(t *testing.T) {
	good := op(1, 1)
	for _, o := range []api.Op{
		op(0, 1), op(1), op(1, 1, 2), op(2, 1), op(75, data(74)...), op(75, data(76)...),
		op(api.OpPush1, data(256)...), op(api.OpPush2, data(65536)...),
		op(0x4E, 1), op(api.OpMinus, 0x81), op(0x50, 1), op(api.OpOne, 1), op(api.OpNop, 0), op(0xFF, 1),
	} {
		for _, l := range [][]api.Op{{o}, {good, o}, {o, good}} {
			if got, e := ops.Join(l); got != nil || e != api.ErrOps {
				t.Errorf("Join of %x with %d bytes: %x, %d", o.Code, len(o.Data), got, e)
			}
		}
	}
}

// P10.2, P10.5
func TestPush(t *testing.T) {
	for _, c := range []struct {
		n    int
		code byte
	}{
		{0, api.Op0}, {1, 1}, {2, 2}, {74, 74}, {75, api.OpDirect}, {76, api.OpPush1}, {255, api.OpPush1}, {256, api.OpPush2}, {65535, api.OpPush2},
	} {
		o, e := ops.Push(data(c.n))
		if e != api.OK || o.Code != c.code || !bytes.Equal(o.Data, data(c.n)) {
			t.Errorf("Push of %d bytes: %x, %d", c.n, o.Code, e)
		}
		if value, ok := ops.Value(o); !ok || !bytes.Equal(value, data(c.n)) {
			t.Errorf("Value of Push of %d bytes: %d, %v", c.n, len(value), ok)
		}
		if script, e := ops.Join([]api.Op{o}); e != api.OK || !ops.Pushes(script) {
			t.Error(c.n, e)
		}
	}
	for b := range 256 {
		if o, e := ops.Push([]byte{byte(b)}); e != api.OK || o.Code != 1 || !bytes.Equal(o.Data, []byte{byte(b)}) {
			t.Error("Push of one byte", b, o, e)
		}
	}
	for _, n := range []int{65536, 100000} {
		if o, e := ops.Push(data(n)); o.Code != 0 || o.Data != nil || e != api.ErrOps {
			t.Error(n, o.Code, e)
		}
	}
}

// pushCode tells whether operations with that code are pushes, by the chapter's list.
func pushCode(code int) bool {
	return code <= 0x4B || code == 0x4C || code == 0x4D || code == 0x4F || code >= 0x51 && code <= 0x60
}

// P10.2
func TestValue(t *testing.T) {
	for code := range 256 {
		o := api.Op{Code: byte(code)}
		var want []byte
		switch {
		case code >= 1 && code <= 0x4B:
			o.Data = data(code)
			want = o.Data
		case code == api.OpPush1 || code == api.OpPush2:
			o.Data = data(200)
			want = o.Data
		case code == api.OpMinus:
			want = []byte{0x81}
		case code >= api.OpOne && code <= api.OpSixteen:
			want = []byte{byte(code - 0x50)}
		}
		value, ok := ops.Value(o)
		if ok != pushCode(code) || !bytes.Equal(value, want) {
			t.Errorf("Value of %x: %x, %v", code, value, ok)
		}
		o.Data = data(len(o.Data) + 1)
		if code != api.OpPush1 && code != api.OpPush2 {
			if value, ok := ops.Value(o); value != nil || ok {
				t.Errorf("Value of %x with too much data: %x", code, value)
			}
		}
	}
	for _, o := range []api.Op{op(1), op(75, 1), op(api.OpPush1, data(256)...), op(api.OpPush2, data(65536)...)} {
		if value, ok := ops.Value(o); value != nil || ok {
			t.Errorf("Value of %x with %d bytes: %x", o.Code, len(o.Data), value)
		}
	}
}

// P10.3
func TestPushes(t *testing.T) {
	if !ops.Pushes(nil) || !ops.Pushes([]byte{}) {
		t.Error("no operations are pushes")
	}
	for code := range 256 {
		o := api.Op{Code: byte(code)}
		if code <= api.OpDirect {
			o.Data = data(code)
		}
		script, e := ops.Join([]api.Op{op(1, 9), o, op(api.OpSixteen)})
		if e != api.OK || ops.Pushes(script) != pushCode(code) {
			t.Errorf("code %x: %d", code, e)
		}
	}
	for _, s := range []string{"02", "5102", "4c0261", "4d01", "61", "6101", "516102"} {
		if ops.Pushes(unhex(t, s)) {
			t.Error("Pushes", s)
		}
	}
}

// P10.3
func TestBurnt(t *testing.T) {
	for _, c := range []struct {
		script []byte
		want   bool
	}{
		{nil, false},
		{[]byte{api.OpReturn}, true},
		{[]byte{api.OpReturn, 0x4C}, true},
		{[]byte{api.OpNop, api.OpReturn}, false},
		{[]byte{1, api.OpReturn}, false},
		{[]byte{0x4C}, false},
		{data(520), false},
		{data(521), true},
		{append([]byte{api.OpReturn}, data(600)...), true},
	} {
		if got := ops.Burnt(c.script); got != c.want {
			t.Errorf("Burnt(%.20x) of %d bytes is %v", c.script, len(c.script), got)
		}
	}
}

// P10.3
func TestSame(t *testing.T) {
	a := []api.Op{op(2, 1, 2), op(api.OpNop)}
	for _, c := range []struct {
		name string
		b    []api.Op
		want bool
	}{
		{"equal", []api.Op{op(2, 1, 2), {Code: api.OpNop, Data: []byte{}}}, true},
		{"fewer", a[:1], false},
		{"more", append(slices.Clone(a), op(0)), false},
		{"order", []api.Op{a[1], a[0]}, false},
		{"code", []api.Op{op(3, 1, 2), op(api.OpNop)}, false},
		{"data", []api.Op{op(2, 1, 3), op(api.OpNop)}, false},
		{"length", []api.Op{op(2, 1), op(api.OpNop)}, false},
	} {
		if ops.Same(a, c.b) != c.want || ops.Same(c.b, a) != c.want {
			t.Error(c.name)
		}
	}
	if !ops.Same(nil, []api.Op{}) {
		t.Error("no operations are the same")
	}
}

// P10.5
func TestThereAndBack(t *testing.T) {
	r := rand.New(rand.NewSource(1))
	split := 0
	for range 5000 {
		script := make([]byte, r.Intn(40))
		r.Read(script)
		for i := range script {
			script[i] >>= r.Intn(6)
		}
		l, e := ops.Split(script)
		if e != api.OK {
			continue
		}
		split++
		if back, e := ops.Join(l); e != api.OK || !bytes.Equal(back, script) {
			t.Errorf("Join of Split of %x: %x, %d", script, back, e)
		}
	}
	if split < 200 {
		t.Error("few scripts were split:", split)
	}
}

// P10.4
func TestNothingIsShared(t *testing.T) {
	script := []byte{2, 5, 6, 1, 7}
	l, _ := ops.Split(script)
	script[1] = 99
	if l[0].Data[0] != 5 {
		t.Error("Split keeps its argument")
	}
	l[0].Data = append(l[0].Data, 1, 2, 3)
	if script[3] != 1 || l[1].Data[0] != 7 {
		t.Error("Split gives memory twice")
	}
	b := []byte{1, 2}
	o, _ := ops.Push(b)
	value, _ := ops.Value(o)
	b[0] = 99
	o.Data[1] = 98
	if o.Data[0] != 1 || !bytes.Equal(value, []byte{1, 2}) {
		t.Error("Push or Value keeps its argument")
	}
}
