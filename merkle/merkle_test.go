package merkle_test

import (
	"math"
	"slices"
	"testing"

	"purser/api"
	"purser/block"
	"purser/merkle"
	"purser/sha"
)

func hashes(n int) []api.Hash {
	l := make([]api.Hash, n)
	for i := range l {
		l[i] = sha.Of([]byte{byte(i), byte(i >> 8)})
	}
	return l
}

func both(a, b api.Hash) api.Hash { return sha.Twice(append(a[:], b[:]...)) }

// rootOf computes a root by recursion, in another way than the package.
func rootOf(l []api.Hash, depth int) api.Hash {
	if depth == 0 {
		return l[0]
	}
	half := 1 << (depth - 1)
	if len(l) <= half {
		left := rootOf(l, depth-1)
		return both(left, left)
	}
	return both(rootOf(l[:half], depth-1), rootOf(l[half:], depth-1))
}

// P8.1
func TestRoot(t *testing.T) {
	l := hashes(3)
	a, b, c := l[0], l[1], l[2]
	for _, x := range []struct {
		l    []api.Hash
		want api.Hash
	}{
		{l[:1], a},
		{l[:2], both(a, b)},
		{l, both(both(a, b), both(c, c))},
		{[]api.Hash{b, a}, both(b, a)},
	} {
		if got, e := merkle.Root(x.l); got != x.want || e != api.OK {
			t.Error(len(x.l), got, e)
		}
	}
	for n := 1; n < 70; n++ {
		depth := 0
		for 1<<depth < n {
			depth++
		}
		if got, e := merkle.Root(hashes(n)); got != rootOf(hashes(n), depth) || e != api.OK {
			t.Error(n, got, e)
		}
	}
	for _, none := range [][]api.Hash{nil, {}} {
		if got, e := merkle.Root(none); got != (api.Hash{}) || e != api.ErrMerkle {
			t.Error(got, e)
		}
	}
}

// P8.1: block 100,000 of Bitcoin has four transactions, whose txids and root are published
func TestPublished(t *testing.T) {
	var l []api.Hash
	for _, s := range []string{
		"8c14f0db3df150123e6f3dbbf30f8b955a8249b62ac1d1ff16284aefa3d06d87",
		"fff2525b8931402dd09222c50775608f75787bd2b87e56995a7bdd30f79702c4",
		"6359f0868171b1d194cbee1af2f16ea598ae8fad666d9b012c8ed2b79a236ec4",
		"e9a66845e05d5abc0ad04ec80f774a7e585c6e8db975962d069a522137b80c1d",
	} {
		h, e := block.Read(s)
		if e != api.OK {
			t.Fatal(e)
		}
		l = append(l, h)
	}
	root, e := merkle.Root(l)
	if got := block.Show(root); got != "f3e94742aca4b5ef85488dc37c06c3282295ffec960994b2c0d5ac2a25a95766" || e != api.OK {
		t.Error(got, e)
	}
}

// P8.1
func TestSwollen(t *testing.T) {
	l := hashes(8)
	a, b, c, d, e, f := l[0], l[1], l[2], l[3], l[4], l[5]
	ab := both(a, b)
	for _, x := range []struct {
		name string
		l    []api.Hash
		want bool
	}{
		{"none", nil, false},
		{"one", l[:1], false},
		{"two", l[:2], false},
		{"twice one", []api.Hash{a, a}, true},
		{"three", l[:3], false},
		{"the last one doubled", []api.Hash{a, b, c, c}, true},
		{"the first one doubled", []api.Hash{a, a, b, c}, true},
		{"equal ones of two pairs", []api.Hash{a, b, b, c}, false},
		{"equal ones, the first and the last", []api.Hash{a, b, a}, false},
		{"an equal one before the odd one", []api.Hash{a, b, b}, false},
		{"twice two", []api.Hash{a, b, a, b}, true},
		{"two doubled behind four", []api.Hash{a, b, c, d, e, f, e, f}, true},
		{"equal pairs that are no pair", []api.Hash{a, b, c, d, c, d, e, f}, false},
		{"six", l[:6], false},
		{"five", l[:5], false},
		{"five, the last one doubled", []api.Hash{a, b, c, d, e, e}, true},
		{"a level above that ends odd", []api.Hash{a, b, c, d, a, b}, false},
		{"eight", l, false},
		{"a level's hash below it", []api.Hash{ab, ab, c}, true},
	} {
		if got := merkle.Swollen(x.l); got != x.want {
			t.Error(x.name, got)
		}
	}
}

// P8.4
func TestSwollenHasTheShorterRoot(t *testing.T) {
	for n := 3; n < 40; n += 2 {
		l := hashes(n)
		longer := append(slices.Clone(l), l[n-1])
		root, _ := merkle.Root(l)
		same, _ := merkle.Root(longer)
		if root != same || !merkle.Swollen(longer) || merkle.Swollen(l) {
			t.Error(n)
		}
	}
}

// P8.1
func TestDepth(t *testing.T) {
	for _, c := range []struct{ many, want int }{
		{math.MinInt, 0}, {-1, 0}, {0, 0}, {1, 0}, {2, 1}, {3, 2}, {4, 2}, {5, 3}, {8, 3}, {9, 4}, {16, 4}, {17, 5},
		{1 << 30, 30}, {1<<30 + 1, 31}, {math.MaxInt, 63},
	} {
		if got := merkle.Depth(c.many); got != c.want {
			t.Errorf("Depth(%d) is %d", c.many, got)
		}
	}
}

// P8.2, P8.4
func TestBranchAndFold(t *testing.T) {
	l := hashes(3)
	if got, e := merkle.Branch(l, 2); e != api.OK || !slices.Equal(got, []api.Hash{l[2], both(l[0], l[1])}) {
		t.Error(got, e)
	}
	if got, e := merkle.Branch(l[:1], 0); e != api.OK || len(got) != 0 {
		t.Error(got, e)
	}
	for n := 1; n < 40; n++ {
		l := hashes(n)
		root, _ := merkle.Root(l)
		for i, leaf := range l {
			branch, e := merkle.Branch(l, i)
			if e != api.OK || len(branch) != merkle.Depth(n) {
				t.Fatal("Branch", n, i, len(branch), e)
			}
			if got, e := merkle.Fold(leaf, i, branch); got != root || e != api.OK {
				t.Error("Fold", n, i, got, e)
			}
		}
		for _, i := range []int{-1, math.MinInt, n, n + 1, math.MaxInt} {
			if got, e := merkle.Branch(l, i); got != nil || e != api.ErrMerkle {
				t.Error("Branch", n, i, got, e)
			}
		}
	}
	if got, e := merkle.Branch(nil, 0); got != nil || e != api.ErrMerkle {
		t.Error(got, e)
	}
}

// P8.2
func TestFold(t *testing.T) {
	l := hashes(31)
	leaf := api.Hash{7}
	for _, c := range []struct {
		n    int
		l    []api.Hash
		want api.Hash
		e    api.Errno
	}{
		{0, nil, leaf, api.OK},
		{0, l[:1], both(leaf, l[0]), api.OK},
		{1, l[:1], both(l[0], leaf), api.OK},
		{2, l[:2], both(l[1], both(leaf, l[0])), api.OK},
		{1, l[:2], both(both(l[0], leaf), l[1]), api.OK},
		{1, nil, api.Hash{}, api.ErrMerkle},
		{2, l[:1], api.Hash{}, api.ErrMerkle},
		{4, l[:2], api.Hash{}, api.ErrMerkle},
		{-1, l[:2], api.Hash{}, api.ErrMerkle},
		{math.MinInt, l[:2], api.Hash{}, api.ErrMerkle},
		{1 << 30, l[:30], api.Hash{}, api.ErrMerkle},
		{math.MaxInt, l[:30], api.Hash{}, api.ErrMerkle},
		{0, l, api.Hash{}, api.ErrMerkle},
	} {
		if got, e := merkle.Fold(leaf, c.n, c.l); got != c.want || e != c.e {
			t.Error(c.n, len(c.l), got, e)
		}
	}
	want := leaf
	for _, other := range l[:30] {
		want = both(other, want)
	}
	if got, e := merkle.Fold(leaf, 1<<30-1, l[:30]); got != want || e != api.OK {
		t.Error("the greatest index", got, e)
	}
	if got, e := merkle.Fold(leaf, 0, make([]api.Hash, 100)); got != (api.Hash{}) || e != api.ErrMerkle {
		t.Error("too long a branch", got, e)
	}
}

// P8.3
func TestNothingIsShared(t *testing.T) {
	l := hashes(5)
	branch, _ := merkle.Branch(l, 4)
	merkle.Root(l)
	merkle.Swollen(l)
	merkle.Fold(l[0], 3, branch)
	branch[0] = api.Hash{9}
	if !slices.Equal(l, hashes(5)) {
		t.Error("an argument changed")
	}
}
