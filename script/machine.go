package script

import (
	"purser/api"
	"purser/ops"
	"purser/stack"
)

// branch is what becomes of the operations of an open branch.
type branch int

const (
	taken branch = iota
	untaken
	dead // opened where nothing is executed: never taken
)

// fault is the error that ends a run.
type fault struct {
	errno api.Errno
}

// machine is the state of a run.
type machine struct {
	stacks   *stack.Stack
	digest   api.Hash
	branches []branch // the open ones, the innermost last
	counted  int      // operations that are no pushes, and keys
}

// run runs a script on a main stack, and returns the main stack after it.
func run(elements [][]byte, script []byte, digest api.Hash) (after [][]byte, e api.Errno) {
	defer func() {
		caught := recover()
		if failed, ok := caught.(fault); ok {
			after, e = nil, failed.errno
		} else if caught != nil {
			panic(caught)
		}
	}()
	stacks, e := stack.New(elements...)
	check(e)
	m := machine{stacks: stacks, digest: digest}
	m.run(split(script))
	return stacks.All(), api.OK
}

// check ends the run if e is an error.
func check(e api.Errno) {
	if e != api.OK {
		panic(fault{e})
	}
}

// demand ends the run with e unless ok holds.
func demand(ok bool, e api.Errno) {
	if !ok {
		panic(fault{e})
	}
}

// split returns the operations of a script. None of them pushes more bytes than the script has, so that no push is too long.
func split(script []byte) []api.Op {
	demand(len(script) <= api.MaxScript, api.ErrLong)
	l, e := ops.Split(script)
	check(e)
	return l
}

func (m *machine) run(l []api.Op) {
nextOperation:
	for _, o := range l {
		value, pushes := ops.Value(o)
		if !pushes {
			m.count(1)
		}
		if m.flow(o.Code) || !m.executes() {
			continue nextOperation
		}
		if pushes {
			check(m.stacks.Push(value))
			continue nextOperation
		}
		m.execute(o.Code)
	}
	demand(len(m.branches) == 0, api.ErrFlow)
}

// count counts n more operations or keys.
func (m *machine) count(n int) {
	m.counted += n
	demand(m.counted <= api.MaxOps, api.ErrLong)
}

// executes reports whether every open branch is taken.
func (m *machine) executes() bool {
	for _, b := range m.branches {
		if b != taken {
			return false
		}
	}
	return true
}

// flow does an operation on branches, and reports whether code is that of one.
func (m *machine) flow(code byte) bool {
	switch code {
	case api.OpIf, api.OpNotif:
		m.branches = append(m.branches, m.opened(code))
	case api.OpElse:
		innermost := m.innermost()
		m.branches[innermost] = m.branches[innermost].inverted()
	case api.OpEndif:
		m.branches = m.branches[:m.innermost()]
	default:
		return false
	}
	return true
}

// opened returns the branch that OpIf or OpNotif opens.
func (m *machine) opened(code byte) branch {
	if !m.executes() {
		return dead
	}
	if m.popTrue() == (code == api.OpIf) {
		return taken
	}
	return untaken
}

// innermost returns the index of the innermost open branch.
func (m *machine) innermost() int {
	demand(len(m.branches) > 0, api.ErrFlow)
	return len(m.branches) - 1
}

func (b branch) inverted() branch {
	switch b {
	case taken:
		return untaken
	case untaken:
		return taken
	}
	return dead
}
