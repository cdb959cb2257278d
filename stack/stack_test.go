package stack_test

import (
	"bytes"
	"math"
	"math/rand"
	"slices"
	"strings"
	"testing"

	"purser/api"
	"purser/num"
	"purser/stack"
)

// elements returns the elements that a text names, one a word; "-" is the empty one.
func elements(text string) [][]byte {
	var l [][]byte
	for _, word := range strings.Fields(text) {
		l = append(l, []byte(strings.Trim(word, "-")))
	}
	return l
}

func integer(n int64) []byte {
	b, _ := num.Encode(n)
	return b
}

func stackOf(t *testing.T, l ...[]byte) *stack.Stack {
	t.Helper()
	s, e := stack.New(l...)
	if e != api.OK {
		t.Fatal(e)
	}
	return s
}

func same(a, b [][]byte) bool { return slices.EqualFunc(a, b, bytes.Equal) }

func many(n int) [][]byte {
	l := make([][]byte, n)
	for i := range l {
		l[i] = []byte{byte(i)}
	}
	return l
}

// P12.1
func TestNew(t *testing.T) {
	long := make([]byte, 521)
	for _, c := range []struct {
		l [][]byte
		e api.Errno
	}{
		{nil, api.OK},
		{elements("a b c"), api.OK},
		{[][]byte{long[:520]}, api.OK},
		{[][]byte{long}, api.ErrStack},
		{[][]byte{{1}, long, {2}}, api.ErrStack},
		{many(100), api.OK},
		{many(101), api.ErrDeep},
		{append(many(100), long), api.ErrStack},
	} {
		s, e := stack.New(c.l...)
		if e != c.e || (s == nil) != (e != api.OK) {
			t.Fatal(len(c.l), s, e)
		}
		if e == api.OK && (!same(s.All(), c.l) || s.Len() != len(c.l) || len(s.Other()) != 0) {
			t.Error(s.All(), s.Other())
		}
	}
}

// P12.1
func TestPush(t *testing.T) {
	s := stackOf(t)
	for i := range 100 {
		if e := s.Push([]byte{byte(i)}); e != api.OK {
			t.Fatal(i, e)
		}
	}
	if e := s.Push(nil); e != api.ErrDeep || !same(s.All(), many(100)) {
		t.Error(e, s.Len())
	}
	if e := s.Push(make([]byte, 521)); e != api.ErrStack {
		t.Error("ErrStack comes first", e)
	}
	for range 40 {
		s.Do(api.OpToalt)
	}
	if e := s.Push(nil); e != api.ErrDeep || s.Len() != 60 {
		t.Error("both stacks count", e)
	}
	s.Pop()
	if e := s.Push(make([]byte, 521)); e != api.ErrStack || s.Len() != 59 {
		t.Error(e)
	}
	if e := s.Push(make([]byte, 520)); e != api.OK || s.Len() != 60 {
		t.Error(e)
	}
}

// P12.1, P12.5
func TestPopAndTop(t *testing.T) {
	s := stackOf(t, many(20)...)
	for _, n := range []int{-1, math.MinInt, 20, 21, math.MaxInt} {
		if b, e := s.Top(n); b != nil || e != api.ErrStack {
			t.Error(n, b, e)
		}
	}
	for i := 19; i >= 0; i-- {
		for n := range i + 1 {
			if b, e := s.Top(n); !bytes.Equal(b, []byte{byte(i - n)}) || e != api.OK {
				t.Error(i, n, b, e)
			}
		}
		if b, e := s.Pop(); !bytes.Equal(b, []byte{byte(i)}) || e != api.OK || s.Len() != i {
			t.Error(i, b, e)
		}
	}
	if b, e := s.Pop(); b != nil || e != api.ErrStack {
		t.Error(b, e)
	}
	if b, e := s.Top(0); b != nil || e != api.ErrStack {
		t.Error(b, e)
	}
}

// P12.1
func TestNumber(t *testing.T) {
	s := stackOf(t, []byte{1, 0}, nil, integer(-300))
	for _, want := range []int64{-300, 0} {
		if n, e := s.Number(); n != want || e != api.OK {
			t.Error(n, e)
		}
	}
	if n, e := s.Number(); n != 0 || e != api.ErrNum || s.Len() != 1 {
		t.Error(n, e, s.Len())
	}
	s.Pop()
	if n, e := s.Number(); n != 0 || e != api.ErrStack {
		t.Error(n, e)
	}
	s.Push([]byte{0, 0, 0, 0, 1})
	if n, e := s.Number(); n != 0 || e != api.ErrNum || s.Len() != 1 {
		t.Error(n, e)
	}
}

// operations are those of the chapter's table that move elements.
var operations = []struct {
	code          byte
	before, after string
}{
	{api.Op2drop, "a b", ""}, {api.OpDrop, "a", ""},
	{api.OpDup, "a", "a a"}, {api.Op2dup, "a b", "a b a b"}, {api.Op3dup, "a b c", "a b c a b c"},
	{api.Op2over, "a b c d", "a b c d a b"}, {api.Op2rot, "a b c d e f", "c d e f a b"},
	{api.Op2swap, "a b c d", "c d a b"}, {api.OpSwap, "a b", "b a"},
	{api.OpNip, "a b", "b"}, {api.OpOver, "a b", "a b a"}, {api.OpRot, "a b c", "b c a"}, {api.OpTuck, "a b", "b a b"},
	{api.OpIfdup, "a", "a a"}, {api.OpIfdup, "-", "-"}, {api.OpIfdup, "\x80", "\x80"}, {api.OpIfdup, "\x00", "\x00"},
	{api.OpSize, "abc", "abc \x03"}, {api.OpSize, "-", "- -"},
}

// P12.2
func TestMoves(t *testing.T) {
	for _, c := range operations {
		for _, below := range []string{"", "x", "x y z"} {
			s := stackOf(t, elements(below+" "+c.before)...)
			if e := s.Do(c.code); e != api.OK || !same(s.All(), elements(below+" "+c.after)) {
				t.Errorf("%x on %q %q: %q, %d", c.code, below, c.before, s.All(), e)
			}
		}
		before := elements(c.before)
		for n := range before {
			s := stackOf(t, before[:n]...)
			if e := s.Do(c.code); e != api.ErrStack || !same(s.All(), before[:n]) {
				t.Errorf("%x on %d elements: %q, %d", c.code, n, s.All(), e)
			}
		}
	}
	s := stackOf(t, many(20)...)
	if e := s.Do(api.OpDepth); e != api.OK || !same(s.All(), append(many(20), []byte{20})) {
		t.Error(s.All(), e)
	}
	s = stackOf(t)
	if e := s.Do(api.OpDepth); e != api.OK || !same(s.All(), [][]byte{{}}) {
		t.Error(s.All(), e)
	}
	s = stackOf(t, make([]byte, 520))
	if e := s.Do(api.OpSize); e != api.OK || !same(s.All(), [][]byte{make([]byte, 520), {0x08, 0x02}}) {
		t.Error(s.Len(), e)
	}
}

// P12.2: the chapter's examples
func TestExamples(t *testing.T) {
	one, two, three := integer(1), integer(2), integer(3)
	for _, c := range []struct {
		more []byte
		code byte
		e    api.Errno
		want [][]byte
	}{
		{nil, api.OpRot, api.OK, [][]byte{two, three, one}},
		{nil, api.OpTuck, api.OK, [][]byte{one, three, two, three}},
		{nil, api.OpNip, api.OK, [][]byte{one, three}},
		{nil, api.Op3dup, api.OK, [][]byte{one, two, three, one, two, three}},
		{nil, api.OpDepth, api.OK, [][]byte{one, two, three, three}},
		{nil, api.Op2over, api.ErrStack, [][]byte{one, two, three}},
		{two, api.OpPick, api.OK, [][]byte{one, two, three, one}},
		{two, api.OpRoll, api.OK, [][]byte{two, three, one}},
		{three, api.OpPick, api.ErrStack, [][]byte{one, two, three, three}},
	} {
		s := stackOf(t, one, two, three)
		if c.more != nil {
			s.Push(c.more)
		}
		if e := s.Do(c.code); e != c.e || !same(s.All(), c.want) {
			t.Errorf("%x: %x, %d", c.code, s.All(), e)
		}
	}
}

// P12.2
func TestPickAndRoll(t *testing.T) {
	l := many(60)
	for n := range 60 {
		s := stackOf(t, append(slices.Clone(l), integer(int64(n)))...)
		if e := s.Do(api.OpPick); e != api.OK || !same(s.All(), append(slices.Clone(l), l[59-n])) {
			t.Errorf("pick %d: %x, %d", n, s.All(), e)
		}
		s = stackOf(t, append(slices.Clone(l), integer(int64(n)))...)
		if e := s.Do(api.OpRoll); e != api.OK || !same(s.All(), append(slices.Delete(slices.Clone(l), 59-n, 60-n), l[59-n])) {
			t.Errorf("roll %d: %x, %d", n, s.All(), e)
		}
	}
	for _, code := range []byte{api.OpPick, api.OpRoll} {
		for _, c := range []struct {
			l [][]byte
			e api.Errno
		}{
			{nil, api.ErrStack},
			{[][]byte{{}}, api.ErrStack},
			{[][]byte{{0}}, api.ErrNum},
			{[][]byte{{7}, {1}}, api.ErrStack},
			{[][]byte{{7}, integer(-1)}, api.ErrStack},
			{[][]byte{{7}, {1, 0}}, api.ErrNum},
			{[][]byte{{7}, {0, 0, 0, 0, 1}}, api.ErrNum},
			{[][]byte{{7}, integer(math.MaxInt32)}, api.ErrStack},
		} {
			s := stackOf(t, c.l...)
			if e := s.Do(code); e != c.e || !same(s.All(), c.l) {
				t.Errorf("%x of %x: %x, %d", code, c.l, s.All(), e)
			}
		}
	}
}

// P12.2
func TestAlternative(t *testing.T) {
	s := stackOf(t, elements("a b c")...)
	if e := s.Do(api.OpFromalt); e != api.ErrStack || !same(s.All(), elements("a b c")) {
		t.Error("nothing to take back", e)
	}
	for range 2 {
		if e := s.Do(api.OpToalt); e != api.OK {
			t.Error(e)
		}
	}
	if !same(s.All(), elements("a")) || !same(s.Other(), elements("c b")) {
		t.Errorf("%q %q", s.All(), s.Other())
	}
	if e := s.Do(api.OpFromalt); e != api.OK || !same(s.All(), elements("a b")) || !same(s.Other(), elements("c")) {
		t.Errorf("%q %q", s.All(), s.Other())
	}
	s = stackOf(t)
	if e := s.Do(api.OpToalt); e != api.ErrStack || len(s.Other()) != 0 {
		t.Error(e)
	}
}

// P12.2
func TestDeep(t *testing.T) {
	grows := map[byte]int{
		api.OpDup: 1, api.Op2dup: 2, api.Op3dup: 3, api.Op2over: 2, api.OpIfdup: 1, api.OpDepth: 1, api.OpOver: 1, api.OpTuck: 1, api.OpSize: 1,
	}
	for _, alternative := range []int{0, 30} {
		for code := range 256 {
			if !stack.Does(byte(code)) || code == api.OpPick || code == api.OpRoll {
				continue
			}
			for depth := 97; depth <= 100; depth++ {
				s := stackOf(t, many(depth)...)
				for range alternative {
					s.Do(api.OpToalt)
				}
				main, other := s.All(), s.Other()
				e := s.Do(byte(code))
				if code == api.OpFromalt && alternative == 0 {
					if e != api.ErrStack {
						t.Error(e)
					}
				} else if grow := grows[byte(code)]; (e == api.ErrDeep) != (depth+grow > 100) || e != api.OK && e != api.ErrDeep {
					t.Errorf("%x on %d and %d elements: %d", code, depth-alternative, alternative, e)
				}
				if e != api.OK && (!same(s.All(), main) || !same(s.Other(), other)) {
					t.Errorf("%x changed something", code)
				}
			}
		}
	}
	for _, code := range []byte{api.OpPick, api.OpRoll} {
		s := stackOf(t, append(many(99), integer(98))...)
		if e := s.Do(code); e != api.OK {
			t.Error("a full stack", e)
		}
	}
}

// P12.2, P12.3
func TestDoes(t *testing.T) {
	listed := []byte{
		api.Op2drop, api.OpDrop, api.Op2over, api.Op2swap, api.OpIfdup, api.OpNip, api.OpRot, api.OpPick, api.OpSize, api.OpDup, api.Op2dup, api.Op3dup,
		api.Op2rot, api.OpSwap, api.OpDepth, api.OpOver, api.OpTuck, api.OpRoll, api.OpToalt, api.OpFromalt,
	}
	for code := range 256 {
		want := slices.Contains(listed, byte(code))
		if got := stack.Does(byte(code)); got != want {
			t.Errorf("Does(%x) is %v", code, got)
		}
		s := stackOf(t)
		if e := s.Do(byte(code)); (e == api.ErrArg) != !want {
			t.Errorf("%x: %d", code, e)
		}
	}
}

// P12.5
func TestUndone(t *testing.T) {
	r := rand.New(rand.NewSource(1))
	for range 100 {
		l := make([][]byte, 4+r.Intn(50))
		for i := range l {
			l[i] = make([]byte, r.Intn(20))
			r.Read(l[i])
		}
		for _, codes := range [][]byte{
			{api.OpToalt, api.OpFromalt}, {api.OpRot, api.OpRot, api.OpRot}, {api.OpSwap, api.OpSwap}, {api.Op2swap, api.Op2swap},
		} {
			s := stackOf(t, l...)
			for _, code := range codes {
				if e := s.Do(code); e != api.OK {
					t.Error(e)
				}
			}
			if !same(s.All(), l) || len(s.Other()) != 0 {
				t.Errorf("%x", codes)
			}
		}
	}
}

func TestNoStack(t *testing.T) {
	for _, s := range []*stack.Stack{nil, {}} {
		if s.Push(make([]byte, 600)) != api.ErrNil || s.Do(0) != api.ErrNil || s.Do(api.OpDepth) != api.ErrNil {
			t.Error("no stack pushes")
		}
		if b, e := s.Pop(); b != nil || e != api.ErrNil {
			t.Error(b, e)
		}
		if b, e := s.Top(-1); b != nil || e != api.ErrNil {
			t.Error(b, e)
		}
		if n, e := s.Number(); n != 0 || e != api.ErrNil {
			t.Error(n, e)
		}
		if s.Len() != 0 || s.All() != nil || s.Other() != nil {
			t.Error("no stack has elements")
		}
	}
}

// P12.4
func TestNothingIsShared(t *testing.T) {
	b := []byte("abc")
	s := stackOf(t, b)
	s.Push(b)
	s.Do(api.OpDup)
	b[0] = 'x'
	all := s.All()
	top, _ := s.Top(0)
	all[0][0], all[2][0], top[0] = 'y', 'y', 'y'
	s.Do(api.OpToalt)
	s.Other()[0][0] = 'z'
	s.Do(api.OpFromalt)
	popped, _ := s.Pop()
	popped[0] = 'w'
	if !same(s.All(), elements("abc abc")) {
		t.Errorf("%q", s.All())
	}
}
