package index

import (
	"cmp"
	"math/rand"
	"slices"
	"testing"
)

// check fails unless t is ordered and balanced, and returns how deep it is.
func check(t *testing.T, x *twig[int], least, most int) int {
	t.Helper()
	if x == nil {
		return 0
	}
	if x.item <= least || x.item >= most {
		t.Fatal("not in order", x.item)
	}
	before, after := check(t, x.before, least, x.item), check(t, x.after, x.item, most)
	if before-after > 1 || after-before > 1 || x.depth != 1+max(before, after) {
		t.Fatal("not balanced", x.item, before, after, x.depth)
	}
	return x.depth
}

// P21.3: whatever is added and removed, an order stays balanced, and older ones stay as they were.
func TestBalance(t *testing.T) {
	const many = 500
	r := rand.New(rand.NewSource(1))
	for _, mixed := range [][]int{nil, r.Perm(many), r.Perm(many)} {
		o := order[int]{compare: cmp.Compare[int]}
		for i := range many {
			n := i
			if mixed != nil {
				n = mixed[i]
			}
			older := o
			o = o.with(n)
			if _, ok := older.find(n); ok {
				t.Fatal("an older order changes")
			}
			check(t, o.root, -1, many)
		}
		if depth := check(t, o.root, -1, many); depth > 12 {
			t.Error("too deep:", depth)
		}
		full := o
		for i, n := range r.Perm(many) {
			o = o.without(n).without(n)
			check(t, o.root, -1, many)
			if l := slices.Collect(o.from(n)); i%100 == 0 && (len(slices.Collect(o.all())) != many-1-i || len(l) > 0 && l[0] <= n) {
				t.Fatal(i, n)
			}
		}
		if o.root != nil || len(slices.Collect(full.all())) != many {
			t.Error("something is left, or an older order changes")
		}
	}
}
