package tree_test

import (
	"math"
	"math/rand"
	"slices"
	"testing"

	"purser/api"
	"purser/block"
	"purser/pow"
	"purser/target"
	"purser/tree"
	"purser/wide"
)

const easy = 0x207FFFFF // its work is 2

func header(prev api.Hash, n uint32, bits uint32) api.Header {
	return api.Header{Prev: prev, Nonce: n, Bits: bits}
}

func add(t *testing.T, x *tree.Tree, h api.Header) api.Hash {
	t.Helper()
	hash, e := x.Add(h)
	if e != api.OK || hash != block.Hash(h) {
		t.Fatal(hash, e)
	}
	return hash
}

// example is the tree of the chapter's examples.
func example(t *testing.T) (x *tree.Tree, a, b, c, d api.Hash) {
	t.Helper()
	root := header(api.Hash{}, 0, easy)
	x, a = tree.New(root), block.Hash(root)
	b = add(t, x, header(a, 1, easy))
	c = add(t, x, header(a, 2, easy))
	d = add(t, x, header(b, 3, easy))
	return x, a, b, c, d
}

// The chapter's examples.
func TestExamples(t *testing.T) {
	root := header(api.Hash{}, 0, easy)
	x, a := tree.New(root), block.Hash(root)
	if x.Best() != a || x.Len() != 1 {
		t.Error("the root is not the best of one")
	}
	b := add(t, x, header(a, 1, easy))
	c := add(t, x, header(a, 2, easy))
	if x.Best() != b {
		t.Error("not the first one seen")
	}
	d := add(t, x, header(b, 3, easy))
	if x.Best() != d {
		t.Error("not the one with the most work")
	}
	if !slices.Equal(x.Path(d), []api.Hash{a, b, d}) {
		t.Error(x.Path(d))
	}
	if f, e := x.Fork(d, c); f != a || e != api.OK {
		t.Error(f, e)
	}
	if h, e := x.Add(header(a, 1, easy)); h != (api.Hash{}) || e != api.ErrKnown {
		t.Error(h, e)
	}
	if h, e := x.Add(header(api.Hash{1}, 1, easy)); h != (api.Hash{}) || e != api.ErrTree {
		t.Error(h, e)
	}
	if e := x.Mark(d); e != api.OK || x.Best() != b {
		t.Error(e)
	}
	if e := x.Mark(b); e != api.OK || !x.Bad(d) || x.Best() != c {
		t.Error(e)
	}
}

// P26.1
func TestNew(t *testing.T) {
	root := header(api.Hash{5}, 7, easy)
	x := tree.New(root)
	n, ok := x.Node(block.Hash(root))
	if !ok || n != (api.Node{Hash: block.Hash(root), Header: root, Total: wide.Of(2)}) {
		t.Error(n, ok)
	}
	if e := x.Mark(block.Hash(root)); e != api.ErrTree || x.Bad(block.Hash(root)) || x.Best() != block.Hash(root) {
		t.Error("the root is marked", e)
	}
	if h, e := x.Add(root); h != (api.Hash{}) || e != api.ErrKnown {
		t.Error("the root once more", e)
	}
	if h, e := x.Add(header(api.Hash{5}, 8, easy)); h != (api.Hash{}) || e != api.ErrTree {
		t.Error("beside the root", e)
	}
	if x.Len() != 1 {
		t.Error(x.Len())
	}
}

// P26.1, P26.2
func TestNodes(t *testing.T) {
	x, a, b, c, d := example(t)
	for i, hash := range []api.Hash{a, b, c, d} {
		n, ok := x.Node(hash)
		if !ok || n.Hash != hash || n.Seen != i || n.Marked || n.Height != []int{0, 1, 1, 2}[i] || n.Total != wide.Of(uint64([]int{2, 4, 4, 6}[i])) {
			t.Error(i, n, ok)
		}
	}
	if n, ok := x.Node(api.Hash{1}); ok || n != (api.Node{}) {
		t.Error(n, ok)
	}
	if e := x.Mark(api.Hash{1}); e != api.ErrTree {
		t.Error(e)
	}
	if x.Mark(b) != api.OK || x.Mark(b) != api.OK {
		t.Error("marked twice")
	}
	for hash, want := range map[api.Hash][2]bool{a: {false, false}, b: {true, true}, c: {false, false}, d: {false, true}, {1}: {false, false}} {
		if n, _ := x.Node(hash); n.Marked != want[0] || x.Bad(hash) != want[1] {
			t.Error(hash, n.Marked, x.Bad(hash))
		}
	}
	e := add(t, x, header(d, 9, easy))
	if n, _ := x.Node(e); !x.Bad(e) || n.Marked || n.Height != 3 || x.Best() != c {
		t.Error("behind a bad one", n)
	}
	x.Mark(c)
	if x.Best() != a || x.Len() != 5 {
		t.Error("all but the root are bad")
	}
}

// P26.2, P26.5: work, not height
func TestWork(t *testing.T) {
	x, _, _, c, d := example(t)
	hard := add(t, x, header(c, 1, 0x1D00FFFF))
	if n, _ := x.Node(hard); x.Best() != hard || n.Total != wide.Of(4+4295032833) || n.Height != 2 {
		t.Error(n)
	}
	last := d
	for i := range 20 {
		last = add(t, x, header(last, uint32(i), easy))
	}
	if x.Best() != hard {
		t.Error("height wins over work")
	}
	none := add(t, x, header(hard, 1, 0))
	if n, _ := x.Node(none); n.Total != wide.Of(4+4295032833) || x.Best() != hard {
		t.Error("bits that are not valid have work", n)
	}
	most := wide.Not(api.Wide{})
	top := hard
	for i := range 5 {
		top = add(t, x, header(top, uint32(i), 0x01010000)) // half of 2^256 each
		if n, _ := x.Node(top); i > 1 && n.Total != most {
			t.Error(i, wide.Digits(n.Total))
		}
	}
}

// P26.3
func TestPathAndAt(t *testing.T) {
	x, a, b, c, d := example(t)
	for hash, want := range map[api.Hash][]api.Hash{a: {a}, b: {a, b}, c: {a, c}, d: {a, b, d}, {1}: nil} {
		if got := x.Path(hash); !slices.Equal(got, want) {
			t.Error(got)
		}
		for height := -2; height < 5; height++ {
			n, e := x.At(hash, height)
			if height < 0 || height >= len(want) {
				if n != (api.Node{}) || e != api.ErrTree {
					t.Error(height, n, e)
				}
			} else if node, _ := x.Node(want[height]); n != node || e != api.OK {
				t.Error(height, n, e)
			}
		}
	}
	for _, height := range []int{math.MaxInt, math.MinInt} {
		if n, e := x.At(d, height); n != (api.Node{}) || e != api.ErrTree {
			t.Error(n, e)
		}
	}
}

// P26.3
func TestForkAndBehind(t *testing.T) {
	x, a, b, c, d := example(t)
	e := add(t, x, header(b, 4, easy))
	f := add(t, x, header(e, 5, easy))
	for _, c := range []struct{ x, y, want api.Hash }{
		{a, a, a}, {a, d, a}, {b, d, b}, {d, d, d}, {c, d, a}, {d, e, b}, {d, f, b}, {c, f, a}, {b, c, a},
	} {
		for range 2 {
			if got, e := x.Fork(c.x, c.y); got != c.want || e != api.OK {
				t.Error(got, e)
			}
			c.x, c.y = c.y, c.x
		}
	}
	for _, pair := range [][2]api.Hash{{a, {1}}, {{1}, a}, {{1}, {1}}, {{}, d}} {
		if got, e := x.Fork(pair[0], pair[1]); got != (api.Hash{}) || e != api.ErrTree {
			t.Error(got, e)
		}
	}
	for hash, want := range map[api.Hash][]api.Hash{a: {b, c}, b: {d, e}, c: nil, d: nil, e: {f}, {}: nil, {1}: nil} {
		if got := x.Behind(hash); !slices.Equal(got, want) {
			t.Error(got, want)
		}
	}
	own := header(api.Hash{}, 0, easy)
	if got := tree.New(own).Behind(own.Prev); len(got) != 0 {
		t.Error("the root is behind something", got)
	}
}

// P26.2
func TestCopy(t *testing.T) {
	x, a, b, c, d := example(t)
	y := x.Copy()
	e := add(t, x, header(d, 7, easy))
	f := add(t, y, header(c, 8, easy))
	y.Mark(b)
	if y.Best() != f || x.Best() != e || x.Bad(d) || x.Bad(b) || !y.Bad(d) || x.Len() != 5 || y.Len() != 5 {
		t.Error("a copy is not independent")
	}
	if _, ok := y.Node(e); ok {
		t.Error("a copy shares nodes")
	}
	if n, _ := y.Node(f); n.Seen != 4 || !slices.Equal(y.Behind(a), []api.Hash{b, c}) {
		t.Error(n)
	}
}

func TestNoTree(t *testing.T) {
	for _, x := range []*tree.Tree{nil, {}} {
		if h, e := x.Add(api.Header{}); h != (api.Hash{}) || e != api.ErrNil {
			t.Error(h, e)
		}
		if e := x.Mark(api.Hash{}); e != api.ErrNil {
			t.Error(e)
		}
		if n, ok := x.Node(api.Hash{}); n != (api.Node{}) || ok {
			t.Error(n, ok)
		}
		if n, e := x.At(api.Hash{}, -1); n != (api.Node{}) || e != api.ErrNil {
			t.Error(n, e)
		}
		if h, e := x.Fork(api.Hash{}, api.Hash{}); h != (api.Hash{}) || e != api.ErrNil {
			t.Error(h, e)
		}
		if x.Bad(api.Hash{}) || x.Best() != (api.Hash{}) || x.Path(api.Hash{}) != nil || x.Behind(api.Hash{}) != nil || x.Len() != 0 || x.Copy() != nil {
			t.Error("no tree has something")
		}
	}
}

// model is a node of a tree that is searched without any shortcut.
type model struct {
	parent, height int
	total          api.Wide
	marked         bool
	hash           api.Hash
}

func bad(l []model, i int) bool {
	for ; i > 0; i = l[i].parent {
		if l[i].marked {
			return true
		}
	}
	return false
}

// P26.2, P26.5
func TestAgainstAModel(t *testing.T) {
	r := rand.New(rand.NewSource(1))
	for range 30 {
		root := header(api.Hash{}, 0, easy)
		x := tree.New(root)
		l := []model{{total: wide.Of(2), hash: block.Hash(root)}}
		for range 60 {
			i := r.Intn(len(l))
			if r.Intn(8) == 0 {
				want := api.OK
				if i == 0 {
					want = api.ErrTree
				}
				before := x.Best()
				if e := x.Mark(l[i].hash); e != want {
					t.Fatal(e)
				}
				l[i].marked = i > 0
				if !x.Bad(before) && x.Best() != before {
					t.Fatal("marking another node changes the best one")
				}
			} else {
				bits := []uint32{easy, 0x203FFFFF, 0x200FFFFF, 0}[r.Intn(4)]
				h := header(l[i].hash, r.Uint32(), bits)
				l = append(l, model{parent: i, height: l[i].height + 1, total: target.Sum(l[i].total, pow.Work(bits)), hash: add(t, x, h)})
			}
			best := 0
			for i, m := range l {
				if x.Bad(m.hash) != bad(l, i) {
					t.Fatal("Bad", i)
				}
				if n, ok := x.Node(m.hash); !ok || n.Height != m.height || n.Total != m.total || n.Seen != i || n.Marked != m.marked {
					t.Fatal("Node", i, n)
				}
				if !bad(l, i) && wide.Compare(m.total, l[best].total) > 0 {
					best = i
				}
			}
			if x.Best() != l[best].hash || x.Len() != len(l) {
				t.Fatal("Best", best)
			}
		}
	}
}

// P26.4
func TestNothingIsShared(t *testing.T) {
	x, a, b, c, d := example(t)
	x.Path(d)[0] = api.Hash{9}
	x.Behind(a)[0] = api.Hash{9}
	if !slices.Equal(x.Path(d), []api.Hash{a, b, d}) || !slices.Equal(x.Behind(a), []api.Hash{b, c}) {
		t.Error("memory is given twice")
	}
}
