package index

import "iter"

// order is an ordered set. Its twigs never change, so that a copy of an order is independent and costs nothing.
type order[T any] struct {
	compare func(a, b T) int
	root    *twig[T]
}

// twig is an item with those ordered before it and behind it; the depths of the two differ by one at most.
type twig[T any] struct {
	item          T
	before, after *twig[T]
	depth         int
}

// find returns the item that is equal to x, and whether there is one.
func (o order[T]) find(x T) (item T, ok bool) {
	for t := o.root; t != nil; {
		switch c := o.compare(x, t.item); {
		case c < 0:
			t = t.before
		case c > 0:
			t = t.after
		default:
			return t.item, true
		}
	}
	return item, false
}

// with returns the order with x, in the place of an item that is equal to it.
func (o order[T]) with(x T) order[T] {
	o.root = o.put(o.root, x)
	return o
}

func (o order[T]) put(t *twig[T], x T) *twig[T] {
	if t == nil {
		return grown(x, nil, nil)
	}
	switch c := o.compare(x, t.item); {
	case c < 0:
		return balanced(t.item, o.put(t.before, x), t.after)
	case c > 0:
		return balanced(t.item, t.before, o.put(t.after, x))
	}
	return grown(x, t.before, t.after)
}

// without returns the order without the item that is equal to x.
func (o order[T]) without(x T) order[T] {
	o.root = o.drop(o.root, x)
	return o
}

func (o order[T]) drop(t *twig[T], x T) *twig[T] {
	if t == nil {
		return nil
	}
	switch c := o.compare(x, t.item); {
	case c < 0:
		return balanced(t.item, o.drop(t.before, x), t.after)
	case c > 0:
		return balanced(t.item, t.before, o.drop(t.after, x))
	case t.after == nil:
		return t.before
	}
	first, rest := t.after.shift()
	return balanced(first, t.before, rest)
}

// shift returns the first item of t, and what is left without it.
func (t *twig[T]) shift() (first T, rest *twig[T]) {
	if t.before == nil {
		return t.item, t.after
	}
	first, rest = t.before.shift()
	return first, balanced(t.item, rest, t.after)
}

// all yields the items in order.
func (o order[T]) all() iter.Seq[T] {
	return func(yield func(T) bool) { o.root.walk(yield) }
}

// from yields the items in order, without those before x.
func (o order[T]) from(x T) iter.Seq[T] {
	return func(yield func(T) bool) { o.walkFrom(o.root, x, yield) }
}

func (o order[T]) walkFrom(t *twig[T], x T, yield func(T) bool) bool {
	if t == nil {
		return true
	}
	if o.compare(t.item, x) < 0 {
		return o.walkFrom(t.after, x, yield)
	}
	return o.walkFrom(t.before, x, yield) && yield(t.item) && t.after.walk(yield)
}

func (t *twig[T]) walk(yield func(T) bool) bool {
	return t == nil || t.before.walk(yield) && yield(t.item) && t.after.walk(yield)
}

func (t *twig[T]) depthOf() int {
	if t == nil {
		return 0
	}
	return t.depth
}

func grown[T any](item T, before, after *twig[T]) *twig[T] {
	return &twig[T]{item: item, before: before, after: after, depth: 1 + max(before.depthOf(), after.depthOf())}
}

// balanced is grown, where the depths may differ by two.
func balanced[T any](item T, before, after *twig[T]) *twig[T] {
	switch before.depthOf() - after.depthOf() {
	case 2:
		if inner := before.after; inner.depthOf() > before.before.depthOf() {
			return grown(inner.item, grown(before.item, before.before, inner.before), grown(item, inner.after, after))
		}
		return grown(before.item, before.before, grown(item, before.after, after))
	case -2:
		if inner := after.before; inner.depthOf() > after.after.depthOf() {
			return grown(inner.item, grown(item, before, inner.before), grown(after.item, inner.after, after.after))
		}
		return grown(after.item, grown(item, before, after.before), after.after)
	}
	return grown(item, before, after)
}
