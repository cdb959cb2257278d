// Package stack is layer 12: the two stacks of the script machine, and the operations that move their elements.
package stack

import (
	"bytes"
	"iter"
	"slices"
)

// pile is one stack. No byte of an element ever changes, so that elements may be shared inside the package.
type pile struct {
	elements [][]byte // the top last
}

func (p *pile) size() int { return len(p.elements) }

// push puts elements on the top, the last one topmost.
func (p *pile) push(l ...[]byte) { p.elements = append(p.elements, l...) }

// take removes n elements from the top and returns them, the top last.
func (p *pile) take(n int) [][]byte {
	rest := len(p.elements) - n
	taken := slices.Clone(p.elements[rest:])
	p.elements = p.elements[:rest]
	return taken
}

// down yields the elements from the top downwards, each with the number of those above it.
func (p *pile) down() iter.Seq2[int, []byte] {
	return func(yield func(int, []byte) bool) {
		for depth := range len(p.elements) {
			if !yield(depth, p.elements[len(p.elements)-1-depth]) {
				return
			}
		}
	}
}

// under returns the element n below the top, and whether there is one.
func (p *pile) under(n int) (found []byte, ok bool) {
search:
	for depth, element := range p.down() {
		if depth == n {
			found, ok = element, true
			break search
		}
	}
	return found, ok
}

// all returns copies of the elements, the top last.
func (p *pile) all() [][]byte {
	l := make([][]byte, 0, len(p.elements))
	for _, element := range p.down() {
		l = append(l, bytes.Clone(element))
	}
	slices.Reverse(l)
	return l
}
