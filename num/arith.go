package num

import "purser/api"

// integer is an integer with the operations of scripts.
type integer int64

// One returns the result of an operation of one integer.
func One(code byte, n int64) (int64, api.Errno) {
	operation := ofOne(code)
	if operation == nil {
		return 0, api.ErrArg
	}
	if !script(n) {
		return 0, api.ErrNum
	}
	return int64(operation(integer(n))), api.OK
}

// Two returns the result of an operation of two integers.
func Two(code byte, a, b int64) (int64, api.Errno) {
	operation := ofTwo(code)
	if operation == nil {
		return 0, api.ErrArg
	}
	if !script(a) || !script(b) {
		return 0, api.ErrNum
	}
	return int64(operation(integer(a), integer(b))), api.OK
}

// Within reports whether n is at least from and below to.
func Within(n, from, to int64) bool { return n >= from && n < to }

// Arity returns how many integers the operation with that code takes.
func Arity(code byte) int {
	switch {
	case ofOne(code) != nil:
		return 1
	case ofTwo(code) != nil:
		return 2
	case code == api.OpWithin:
		return 3
	}
	return 0
}

// script reports whether n is a script integer.
func script(n int64) bool { return n >= -api.MaxNum && n <= api.MaxNum }

// ofOne returns the operation of one integer with that code, or nil.
func ofOne(code byte) func(integer) integer {
	switch code {
	case api.Op1add:
		return integer.next
	case api.Op1sub:
		return integer.previous
	case api.OpNegate:
		return integer.negated
	case api.OpAbs:
		return integer.size
	case api.OpNot:
		return integer.isZero
	case api.OpNonzero:
		return integer.isNot
	}
	return nil
}

// ofTwo returns the operation of two integers with that code, or nil.
func ofTwo(code byte) func(a, b integer) integer {
	switch code {
	case api.OpAdd:
		return integer.plus
	case api.OpSub:
		return integer.minus
	case api.OpAnd:
		return integer.and
	case api.OpOr:
		return integer.or
	case api.OpNumeq, api.OpNumeqv:
		return integer.equals
	case api.OpNumne:
		return integer.differs
	case api.OpLess:
		return integer.less
	case api.OpGreater:
		return integer.greater
	case api.OpMost:
		return integer.atMost
	case api.OpLeast:
		return integer.atLeast
	case api.OpMin:
		return integer.smaller
	case api.OpMax:
		return integer.larger
	}
	return nil
}

func (n integer) next() integer     { return n + 1 }
func (n integer) previous() integer { return n - 1 }
func (n integer) negated() integer  { return -n }
func (n integer) size() integer     { return max(n, -n) }
func (n integer) isZero() integer   { return flag(n == 0) }
func (n integer) isNot() integer    { return flag(n != 0) }

func (a integer) plus(b integer) integer    { return a + b }
func (a integer) minus(b integer) integer   { return a - b }
func (a integer) and(b integer) integer     { return flag(a != 0 && b != 0) }
func (a integer) or(b integer) integer      { return flag(a != 0 || b != 0) }
func (a integer) equals(b integer) integer  { return flag(a == b) }
func (a integer) differs(b integer) integer { return flag(a != b) }
func (a integer) less(b integer) integer    { return flag(a < b) }
func (a integer) greater(b integer) integer { return flag(a > b) }
func (a integer) atMost(b integer) integer  { return flag(a <= b) }
func (a integer) atLeast(b integer) integer { return flag(a >= b) }
func (a integer) smaller(b integer) integer { return min(a, b) }
func (a integer) larger(b integer) integer  { return max(a, b) }

func flag(is bool) integer {
	if is {
		return 1
	}
	return 0
}
