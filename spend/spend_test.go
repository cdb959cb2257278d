package spend_test

import (
	"bytes"
	"math"
	"slices"
	"testing"

	"purser/api"
	"purser/sha"
	"purser/sign"
	"purser/spend"
	"purser/tx"
)

func secret(n int) api.Hash { return api.Hash{byte(n), 42} }

func key(n int) api.Hash { return sign.Public(secret(n)) }

func keys(n int) []api.Hash {
	l := make([]api.Hash, n)
	for i := range l {
		l[i] = key(i)
	}
	return l
}

// transaction has three inputs and two outputs.
func transaction() api.Tx {
	t := api.Tx{Version: 3, Lock: 4}
	for i := range 3 {
		t.In = append(t.In, api.In{Prev: api.Outpoint{Tx: api.Hash{byte(i)}, N: uint32(i)}, Script: []byte{1, byte(i)}, Seq: uint32(10 + i)})
	}
	t.Out = []api.Out{{Value: 7, Script: []byte{5}}, {Value: 8, Script: []byte{6, 6}}}
	return t
}

// signed is the transaction, its input n signed for lock by a secret.
func signed(t *testing.T, n int, lock []byte, by api.Hash) api.Tx {
	t.Helper()
	x := transaction()
	script, e := spend.Signed(by, x, n, lock)
	if e != api.OK {
		t.Fatal(e)
	}
	x.In[n].Script = script
	return x
}

// P14.1
func TestDigest(t *testing.T) {
	lock := []byte{9, 9, 9}
	for n := range 3 {
		x := transaction()
		for i := range x.In {
			x.In[i].Script = nil
		}
		x.In[n].Script = lock
		b, _ := tx.Encode(x)
		want := sha.Twice(append(b, byte(n), 0, 0, 0))
		if got, e := spend.Digest(transaction(), n, lock); got != want || e != api.OK {
			t.Error(n, got, e)
		}
	}
	tooLong := transaction()
	tooLong.Out[1].Script = make([]byte, 2001)
	longInput := transaction()
	longInput.In[1].Script = make([]byte, 2001)
	for _, c := range []struct {
		name string
		x    api.Tx
		n    int
		lock []byte
		want api.Errno
	}{
		{"-1", transaction(), -1, nil, api.ErrSpend},
		{"3", transaction(), 3, nil, api.ErrSpend},
		{"many", transaction(), math.MaxInt, nil, api.ErrSpend},
		{"nothing", api.Tx{}, 0, nil, api.ErrSpend},
		{"no outputs", api.Tx{In: make([]api.In, 1)}, 0, nil, api.ErrSpend},
		{"longest lock", transaction(), 1, make([]byte, 2000), api.OK},
		{"long lock", transaction(), 1, make([]byte, 2001), api.ErrSpend},
		{"long output", tooLong, 1, nil, api.ErrSpend},
		{"another input is replaced", longInput, 0, nil, api.OK},
		{"its own, too", longInput, 1, nil, api.OK},
	} {
		got, e := spend.Digest(c.x, c.n, c.lock)
		if e != c.want || (e != api.OK && got != api.Hash{}) {
			t.Error(c.name, got, e)
		}
		if e := spend.Check(c.x, c.n, c.lock); c.want != api.OK && e != c.want {
			t.Error(c.name, "Check", e)
		}
		if b, e := spend.Signed(secret(1), c.x, c.n, c.lock); e != c.want || (b == nil) != (e != api.OK) {
			t.Error(c.name, "Signed", b, e)
		}
	}
}

// P14.1
func TestCheck(t *testing.T) {
	x := transaction()
	x.In[0].Script = []byte{1, 2, 1, 3} // pushes of 2 and 3
	for _, c := range []struct {
		name string
		n    int
		lock []byte
		want api.Errno
	}{
		{"sum", 0, []byte{api.OpAdd, 1, 5, api.OpEqual}, api.OK},
		{"another sum", 0, []byte{api.OpAdd, 1, 6, api.OpEqual}, api.ErrVerify},
		{"unknown", 0, []byte{0xFF}, api.ErrOp},
		{"return", 0, []byte{api.OpReturn}, api.ErrReturn},
		{"flow", 0, []byte{api.OpElse}, api.ErrFlow},
		{"too long to run", 0, make([]byte, 521), api.ErrLong},
		{"an input that is not there", 3, []byte{0x51}, api.ErrSpend},
	} {
		if e := spend.Check(x, c.n, c.lock); e != c.want {
			t.Error(c.name, e)
		}
	}
	if e := spend.Check(api.Tx{In: make([]api.In, 2), Out: make([]api.Out, 1)}, 3, nil); e != api.ErrSpend {
		t.Error("input 3 of two", e)
	}
}

// P14.1, P14.4
func TestLocks(t *testing.T) {
	own := key(1)
	short := sha.Short(own[:])
	several, _ := spend.PaySeveral(2, keys(3))
	for n := range 3 {
		x := signed(t, n, spend.PayKey(key(1)), secret(1))
		if e := spend.Check(x, n, spend.PayKey(key(1))); e != api.OK {
			t.Error("PayKey", n, e)
		}
		if e := spend.Check(x, n, spend.PayKey(key(2))); e != api.ErrVerify {
			t.Error("another key", n, e)
		}
		if e := spend.Check(x, (n+1)%3, spend.PayKey(key(1))); e == api.OK {
			t.Error("another input", n, e)
		}
		x = signed(t, n, spend.PayShort(short), secret(1))
		x.In[n].Script = append(append(x.In[n].Script, 32), own[:]...)
		if e := spend.Check(x, n, spend.PayShort(short)); e != api.OK {
			t.Error("PayShort", n, e)
		}
		if e := spend.Check(x, n, spend.PayShort(sha.Short([]byte("other")))); e != api.ErrVerify {
			t.Error("another short hash", n, e)
		}
		first, _ := spend.Signed(secret(0), transaction(), n, several)
		last, _ := spend.Signed(secret(2), transaction(), n, several)
		x = transaction()
		x.In[n].Script = slices.Concat([]byte{0}, first, last)
		if e := spend.Check(x, n, several); e != api.OK {
			t.Error("PaySeveral", n, e)
		}
		x.In[n].Script = slices.Concat([]byte{0}, last, first)
		if e := spend.Check(x, n, several); e != api.ErrVerify {
			t.Error("in another order", n, e)
		}
	}
}

// P14.4
func TestWhatIsSigned(t *testing.T) {
	lock := spend.PayKey(key(1))
	for name, c := range map[string]struct {
		change func(x *api.Tx)
		want   api.Errno
	}{
		"nothing":           {func(x *api.Tx) {}, api.OK},
		"script of another": {func(x *api.Tx) { x.In[0].Script, x.In[2].Script = nil, make([]byte, 1999) }, api.OK},
		"version":           {func(x *api.Tx) { x.Version++ }, api.ErrVerify},
		"lock":              {func(x *api.Tx) { x.Lock++ }, api.ErrVerify},
		"own outpoint":      {func(x *api.Tx) { x.In[1].Prev.N++ }, api.ErrVerify},
		"another outpoint":  {func(x *api.Tx) { x.In[2].Prev.Tx[5]++ }, api.ErrVerify},
		"another seq":       {func(x *api.Tx) { x.In[0].Seq++ }, api.ErrVerify},
		"value":             {func(x *api.Tx) { x.Out[1].Value++ }, api.ErrVerify},
		"output's script":   {func(x *api.Tx) { x.Out[0].Script = nil }, api.ErrVerify},
		"an output more":    {func(x *api.Tx) { x.Out = append(x.Out, x.Out[0]) }, api.ErrVerify},
		"an input more":     {func(x *api.Tx) { x.In = append(x.In, x.In[0]) }, api.ErrVerify},
	} {
		x := signed(t, 1, lock, secret(1))
		c.change(&x)
		if e := spend.Check(x, 1, lock); e != c.want {
			t.Error(name, e)
		}
	}
}

// P14.1
func TestAll(t *testing.T) {
	x := transaction()
	yes, no := []byte{0x51}, []byte{0}
	for i := range x.In {
		x.In[i].Script = nil
	}
	for _, c := range []struct {
		name  string
		locks [][]byte
		n     int
		e     api.Errno
	}{
		{"all may", [][]byte{yes, yes, yes}, 3, api.OK},
		{"not the first", [][]byte{no, yes, no}, 0, api.ErrVerify},
		{"not the second", [][]byte{yes, {api.OpReturn}, no}, 1, api.ErrReturn},
		{"not the last", [][]byte{yes, yes, {0xFF}}, 2, api.ErrOp},
		{"a long lock", [][]byte{yes, yes, make([]byte, 2001)}, 2, api.ErrSpend},
		{"too few", [][]byte{no, no}, 0, api.ErrArg},
		{"too many", [][]byte{yes, yes, yes, yes}, 0, api.ErrArg},
		{"none", nil, 0, api.ErrArg},
	} {
		if n, e := spend.All(x, c.locks); n != c.n || e != c.e {
			t.Error(c.name, n, e)
		}
	}
	if n, e := spend.All(api.Tx{}, nil); n != 0 || e != api.OK {
		t.Error("no inputs, no locks", n, e)
	}
}

// P14.2
func TestScripts(t *testing.T) {
	k := key(1)
	if got := spend.PayKey(k); !bytes.Equal(got, slices.Concat([]byte{0x20}, k[:], []byte{0xAC})) {
		t.Errorf("PayKey: %x", got)
	}
	short := bytes.Repeat([]byte{7}, 20)
	want := slices.Concat([]byte{0x76, 0xA9, 0x14}, short, []byte{0x88, 0xAC})
	for _, more := range []string{"", "x", "more bytes that are not used"} {
		if got := spend.PayShort(append(slices.Clone(short), more...)); !bytes.Equal(got, want) {
			t.Errorf("PayShort: %x", got)
		}
	}
	if got := spend.PayShort(short[:19]); !bytes.Equal(got, slices.Concat([]byte{0x76, 0xA9, 0x13}, short[:19], []byte{0x88, 0xAC})) {
		t.Errorf("PayShort of 19 bytes: %x", got)
	}
	if got := spend.PayShort(nil); !bytes.Equal(got, []byte{0x76, 0xA9, 0, 0x88, 0xAC}) {
		t.Errorf("PayShort of none: %x", got)
	}
	script, e := spend.Signed(secret(1), transaction(), 1, []byte{1})
	digest, _ := spend.Digest(transaction(), 1, []byte{1})
	if e != api.OK || !bytes.Equal(script, append([]byte{64}, sign.Sign(secret(1), digest)...)) {
		t.Errorf("Signed: %x, %d", script, e)
	}
}

// P14.2
func TestPaySeveral(t *testing.T) {
	for many := range 21 {
		for n := range many + 1 {
			push := func(n int) []byte {
				if n == 0 {
					return []byte{0}
				}
				return []byte{1, byte(n)}
			}
			want := push(n)
			for _, k := range keys(many) {
				want = append(append(want, 0x20), k[:]...)
			}
			want = append(append(want, push(many)...), 0xAE)
			if got, e := spend.PaySeveral(n, keys(many)); e != api.OK || !bytes.Equal(got, want) {
				t.Errorf("PaySeveral(%d of %d): %x, %d", n, many, got, e)
			}
		}
	}
	for _, c := range []struct{ n, many int }{{-1, 3}, {4, 3}, {1, 0}, {1, 21}, {0, 21}, {21, 21}, {math.MaxInt, 5}, {math.MinInt, 5}} {
		if got, e := spend.PaySeveral(c.n, keys(c.many)); got != nil || e != api.ErrArg {
			t.Errorf("PaySeveral(%d of %d): %x, %d", c.n, c.many, got, e)
		}
	}
}

// P14.3
func TestNothingIsShared(t *testing.T) {
	x, lock := transaction(), spend.PayKey(key(1))
	kept := slices.Clone(lock)
	spend.Digest(x, 1, lock)
	spend.Check(x, 1, lock)
	spend.All(x, [][]byte{lock, lock, lock})
	spend.Signed(secret(1), x, 1, lock)
	if !tx.Same(x, transaction()) || !bytes.Equal(lock, kept) {
		t.Error("an argument changed")
	}
	room := bytes.Repeat([]byte{7}, 30)
	script := spend.PayShort(room[:20])
	script[5] = 99
	if !bytes.Equal(room, bytes.Repeat([]byte{7}, 30)) {
		t.Error("PayShort gives its argument's memory")
	}
}
