package script

import (
	"bytes"

	"purser/api"
	"purser/num"
	"purser/sha"
	"purser/sign"
	"purser/stack"
)

// execute does an operation that is neither a push nor one on branches.
func (m *machine) execute(code byte) {
	switch {
	case stack.Does(code):
		check(m.stacks.Do(code))
		return
	case num.Arity(code) > 0:
		m.arithmetic(code)
		return
	}
	switch code {
	case api.OpNop:
	case api.OpVerify:
		m.verify()
	case api.OpReturn:
		check(api.ErrReturn)
	case api.OpEqual, api.OpEqualverify:
		m.outcome(bytes.Equal(m.pop(), m.pop()), code == api.OpEqualverify)
	case api.OpSha, api.OpHash160, api.OpHash256:
		m.push(hashed(code, m.pop()))
	case api.OpSig, api.OpSigv:
		key, sig := m.pop(), m.pop()
		m.outcome(sign.Is(key, sig, m.digest), code == api.OpSigv)
	case api.OpMulti, api.OpMultiv:
		m.outcome(m.several(), code == api.OpMultiv)
	default:
		check(api.ErrOp)
	}
}

func (m *machine) arithmetic(code byte) {
	switch num.Arity(code) {
	case 1:
		m.result(num.One(code, m.number()))
	case 2:
		b, a := m.number(), m.number()
		m.result(num.Two(code, a, b))
		if code == api.OpNumeqv {
			m.verify()
		}
	default:
		to, from, n := m.number(), m.number(), m.number()
		m.outcome(num.Within(n, from, to), false)
	}
}

// result pushes the result of an arithmetic operation.
func (m *machine) result(n int64, e api.Errno) {
	check(e)
	b, e := num.Encode(n)
	check(e)
	m.push(b)
}

// outcome pushes an outcome; if it is verified, it is removed again, and has to be true.
func (m *machine) outcome(is, verified bool) {
	m.push(num.Flag(is))
	if verified {
		m.verify()
	}
}

func (m *machine) verify() { demand(m.popTrue(), api.ErrVerify) }

// hashed returns what an operation of hashes makes of b.
func hashed(code byte, b []byte) []byte {
	if code == api.OpHash160 {
		return sha.Short(b)
	}
	hash := sha.Of(b)
	if code == api.OpHash256 {
		hash = sha.Twice(b)
	}
	return hash[:]
}

// several removes keys and signatures, and reports whether they match.
func (m *machine) several() bool {
	many := m.numberUpTo(api.MaxKeys)
	m.count(many)
	keys := m.popSeveral(many)
	sigs := m.popSeveral(m.numberUpTo(many))
	demand(len(m.pop()) == 0, api.ErrVerify)
	return Match(keys, sigs, m.digest)
}

// popSeveral removes n elements, and returns them in the order in which they were pushed.
func (m *machine) popSeveral(n int) [][]byte {
	l := make([][]byte, n)
	for i := range n {
		l[n-1-i] = m.pop()
	}
	return l
}

// numberUpTo removes an integer, which has to be from 0 to most.
func (m *machine) numberUpTo(most int) int {
	n := m.number()
	demand(n >= 0 && n <= int64(most), api.ErrKeys)
	return int(n)
}

func (m *machine) number() int64 {
	n, e := m.stacks.Number()
	check(e)
	return n
}

func (m *machine) pop() []byte {
	b, e := m.stacks.Pop()
	check(e)
	return b
}

func (m *machine) popTrue() bool { return num.True(m.pop()) }

func (m *machine) push(b []byte) { check(m.stacks.Push(b)) }
