package stack

import (
	"purser/api"
	"purser/num"
)

// Does reports whether code is that of a stack operation.
func Does(code byte) bool {
	_, ok := needs(code)
	return ok
}

// Do performs a stack operation.
func (s *Stack) Do(code byte) api.Errno {
	if !s.stacks() {
		return api.ErrNil
	}
	least, ok := needs(code)
	if !ok {
		return api.ErrArg
	}
	from := &s.pile
	if code == api.OpFromalt {
		from = &s.other
	}
	if from.size() < least {
		return api.ErrStack
	}
	switch code {
	case api.OpToalt:
		s.other.push(s.take(1)...)
		return api.OK
	case api.OpFromalt:
		s.push(s.other.take(1)...)
		return api.OK
	case api.OpPick, api.OpRoll:
		return s.fetch(code == api.OpRoll)
	}
	return s.swap(least, s.change(code, s.elements[s.size()-least:])...)
}

// needs returns how many elements a stack operation needs at least, and whether code is that of one.
func needs(code byte) (int, bool) {
	if before, _, ok := moves(code); ok {
		return before, true
	}
	switch code {
	case api.OpDepth:
		return 0, true
	case api.OpIfdup, api.OpPick, api.OpRoll, api.OpSize, api.OpToalt, api.OpFromalt:
		return 1, true
	}
	return 0, false
}

// moves describes an operation that only moves elements: how many of them stand before it, and which of these stand after it, counted from the lowest.
func moves(code byte) (before int, after string, ok bool) {
	switch code {
	case api.OpDrop:
		return 1, "", true
	case api.Op2drop:
		return 2, "", true
	case api.OpDup:
		return 1, "00", true
	case api.Op2dup:
		return 2, "0101", true
	case api.Op3dup:
		return 3, "012012", true
	case api.Op2over:
		return 4, "012301", true
	case api.Op2rot:
		return 6, "234501", true
	case api.Op2swap:
		return 4, "2301", true
	case api.OpSwap:
		return 2, "10", true
	case api.OpNip:
		return 2, "1", true
	case api.OpOver:
		return 2, "010", true
	case api.OpRot:
		return 3, "120", true
	case api.OpTuck:
		return 2, "101", true
	}
	return 0, "", false
}

// change returns what an operation puts in the place of the last elements.
func (s *Stack) change(code byte, last [][]byte) (give [][]byte) {
	_, after, _ := moves(code)
	for _, place := range []byte(after) {
		give = append(give, last[place-'0'])
	}
	switch code {
	case api.OpIfdup:
		give = append(give, last[0])
		if num.True(last[0]) {
			give = append(give, last[0])
		}
	case api.OpDepth:
		give = append(give, count(s.size()))
	case api.OpSize:
		give = append(give, last[0], count(len(last[0])))
	}
	return give
}

// fetch pushes the element as far below the top as the top says; if it rolls, the element leaves its old position.
func (s *Stack) fetch(rolls bool) api.Errno {
	top, _ := s.under(0)
	n, e := num.Decode(top)
	if e != api.OK {
		return e
	}
	if n < 0 || n >= int64(s.size()-1) {
		return api.ErrStack
	}
	between := s.elements[s.size()-1-int(n) : s.size()-1]
	wanted := s.elements[s.size()-2-int(n)]
	if !rolls {
		return s.swap(1, wanted)
	}
	give := append([][]byte(nil), between...)
	return s.swap(int(n)+2, append(give, wanted)...)
}

// count returns the encoding of a number of elements or bytes, which is small.
func count(n int) []byte {
	b, _ := num.Encode(int64(n))
	return b
}
