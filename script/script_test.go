package script_test

import (
	"bytes"
	"math/rand"
	"slices"
	"testing"

	"purser/api"
	"purser/num"
	"purser/ops"
	"purser/script"
	"purser/sha"
	"purser/sign"
	"purser/stack"
)

var digest = api.Hash{1, 2, 3}

// op is the code of an operation in a script to be assembled.
type op byte

// asm assembles a script: an op is itself, an int the push of an integer, and bytes are pushed.
func asm(parts ...any) []byte {
	var b []byte
	for _, part := range parts {
		switch x := part.(type) {
		case op:
			b = append(b, byte(x))
		case int:
			n, _ := num.Encode(int64(x))
			b = append(b, asm(n)...)
		case []byte:
			o, _ := ops.Push(x)
			encoded, _ := ops.Join([]api.Op{o})
			b = append(b, encoded...)
		case string:
			b = append(b, x...)
		}
	}
	return b
}

func times(n int, o op) []byte { return bytes.Repeat([]byte{byte(o)}, n) }

// elements encodes a main stack: an int is an integer, and bytes are themselves.
func elements(parts ...any) [][]byte {
	var l [][]byte
	for _, part := range parts {
		switch x := part.(type) {
		case int:
			n, _ := num.Encode(int64(x))
			l = append(l, n)
		case []byte:
			l = append(l, x)
		}
	}
	return l
}

func same(a, b [][]byte) bool { return slices.EqualFunc(a, b, bytes.Equal) }

// run runs a script on a stack with these elements.
func run(t *testing.T, on [][]byte, s []byte) ([][]byte, api.Errno) {
	t.Helper()
	before, e := stack.New(on...)
	if e != api.OK {
		t.Fatal(e)
	}
	after, e := script.Run(before, s, digest)
	if (after == nil) != (e != api.OK) {
		t.Error("a stack beside an error, or none", e)
	}
	if !same(before.All(), on) || len(before.Other()) != 0 {
		t.Error("Run changes its argument")
	}
	if e != api.OK {
		return nil, e
	}
	if len(after.Other()) != 0 {
		t.Error("an alternative stack is left")
	}
	return after.All(), api.OK
}

type c struct {
	on   [][]byte
	s    []byte
	want [][]byte
	e    api.Errno
}

func check(t *testing.T, cases map[string]c) {
	t.Helper()
	for name, c := range cases {
		if got, e := run(t, c.on, c.s); e != c.e || !same(got, c.want) {
			t.Errorf("%s: %x, %d", name, got, e)
		}
	}
}

func secret(n int) api.Hash { return api.Hash{byte(n), 77} }

func key(n int) []byte {
	k := sign.Public(secret(n))
	return k[:]
}

func sig(n int) []byte { return sign.Sign(secret(n), digest) }

// P13.1
func TestPushesAndPlainOnes(t *testing.T) {
	hash, twice := sha.Of([]byte("ab")), sha.Twice([]byte("ab"))
	long := bytes.Repeat([]byte{9}, 515)
	check(t, map[string]c{
		"nothing":         {elements(4), nil, elements(4), api.OK},
		"pushes":          {nil, asm(op(0), op(api.OpMinus), op(api.OpOne), op(0x55), op(api.OpSixteen), []byte("xyz")), elements(0, -1, 1, 5, 16, []byte("xyz")), api.OK},
		"any length":      {nil, asm("\x4c\x01a", "\x4d\x01\x00b"), elements([]byte("a"), []byte("b")), api.OK},
		"a long push":     {nil, asm(long), elements(long), api.OK},
		"nop":             {elements(4), asm(op(api.OpNop), op(api.OpNop)), elements(4), api.OK},
		"verify":          {elements(4, 1), asm(op(api.OpVerify)), elements(4), api.OK},
		"verify 2":        {elements(4, []byte{0, 0x81}), asm(op(api.OpVerify)), elements(4), api.OK},
		"verify false":    {elements(4, 0), asm(op(api.OpVerify)), nil, api.ErrVerify},
		"verify minus 0":  {elements(4, []byte{0, 0x80}), asm(op(api.OpVerify)), nil, api.ErrVerify},
		"verify nothing":  {nil, asm(op(api.OpVerify)), nil, api.ErrStack},
		"return":          {elements(1), asm(op(api.OpReturn)), nil, api.ErrReturn},
		"first error":     {elements(0), asm(op(api.OpVerify), op(api.OpReturn)), nil, api.ErrVerify},
		"equal":           {elements(7, 3, 3), asm(op(api.OpEqual)), elements(7, 1), api.OK},
		"not equal":       {elements(3, []byte{3, 0}), asm(op(api.OpEqual)), elements(0), api.OK},
		"equal to none":   {elements(3), asm(op(api.OpEqual)), nil, api.ErrStack},
		"equalverify":     {elements(7, 3, 3), asm(op(api.OpEqualverify)), elements(7), api.OK},
		"unequalverify":   {elements(7, 3, 4), asm(op(api.OpEqualverify)), nil, api.ErrVerify},
		"sha":             {elements(7, []byte("ab")), asm(op(api.OpSha)), elements(7, hash[:]), api.OK},
		"hash160":         {elements([]byte("ab")), asm(op(api.OpHash160)), elements(twice[:20]), api.OK},
		"hash256":         {elements([]byte("ab")), asm(op(api.OpHash256)), elements(twice[:]), api.OK},
		"sha of none":     {nil, asm(op(api.OpSha)), nil, api.ErrStack},
		"hash160 of none": {nil, asm(op(api.OpHash160)), nil, api.ErrStack},
		"hash256 of none": {nil, asm(op(api.OpHash256)), nil, api.ErrStack},
		"no push":         {elements(1), asm(op(0x4E)), nil, api.ErrOp},
		"reserved":        {elements(1), asm(op(0x50)), nil, api.ErrOp},
		"disabled":        {elements(1, 1), asm(op(0x95)), nil, api.ErrOp},
		"unknown":         {elements(1), asm(op(0xFF)), nil, api.ErrOp},
		"no operations":   {elements(1), asm("\x02a"), nil, api.ErrOps},
		"none is run":     {nil, asm(op(api.OpReturn), "\x02a"), nil, api.ErrOps},
	})
}

// P13.1: exactly the codes of the chapters are operations
func TestCodes(t *testing.T) {
	listed := []byte{
		api.OpNop, api.OpVerify, api.OpReturn, api.OpEqual, api.OpEqualverify, api.OpSha, api.OpHash160, api.OpHash256,
		api.OpSig, api.OpSigv, api.OpMulti, api.OpMultiv, api.OpIf, api.OpNotif, api.OpElse, api.OpEndif,
	}
	for code := range 256 {
		data := ""
		if code <= api.OpDirect {
			data = string(make([]byte, code))
		} else if code == api.OpPush1 || code == api.OpPush2 {
			data = "\x00\x00"[:code-api.OpPush1+1]
		}
		_, pushes := ops.Value(api.Op{Code: byte(code), Data: []byte(data)})
		pushes = pushes || data != ""
		known := pushes || stack.Does(byte(code)) || num.Arity(byte(code)) > 0 || slices.Contains(listed, byte(code))
		if _, e := run(t, nil, asm(op(code), data)); (e == api.ErrOp) == known {
			t.Errorf("%x: %d", code, e)
		}
		s := asm(0, op(api.OpIf), op(code), data, op(api.OpEndif))
		if _, e := run(t, nil, s); e != api.OK && code != api.OpIf && code != api.OpNotif && code != api.OpEndif {
			t.Errorf("%x, not executed: %d", code, e)
		}
	}
}

// P13.1
func TestStackAndArithmetic(t *testing.T) {
	wide := []byte{0, 0, 0, 0x80, 0} // 2^31
	check(t, map[string]c{
		"rot":                  {elements(1, 2, 3), asm(op(api.OpRot)), elements(2, 3, 1), api.OK},
		"too few":              {elements(1, 2), asm(op(api.OpRot)), nil, api.ErrStack},
		"pick":                 {elements(5, 6, []byte{0}), asm(op(api.OpPick)), nil, api.ErrNum},
		"alternative":          {elements(1, 2), asm(op(api.OpToalt), op(api.OpDup), op(api.OpFromalt)), elements(1, 1, 2), api.OK},
		"left there":           {elements(1, 2), asm(op(api.OpToalt)), elements(1), api.OK},
		"not kept":             {elements(1, 2), asm(op(api.OpFromalt)), nil, api.ErrStack},
		"1add":                 {elements(9, 5), asm(op(api.Op1add)), elements(9, 6), api.OK},
		"negate":               {elements(5), asm(op(api.OpNegate)), elements(-5), api.OK},
		"add":                  {elements(9, 2, 3), asm(op(api.OpAdd)), elements(9, 5), api.OK},
		"sub":                  {elements(9, 2, 5), asm(op(api.OpSub)), elements(9, -3), api.OK},
		"less":                 {elements(2, 5), asm(op(api.OpLess)), elements(1), api.OK},
		"greater":              {elements(2, 5), asm(op(api.OpGreater)), elements(0), api.OK},
		"more than an integer": {elements(api.MaxNum, 1), asm(op(api.OpAdd)), elements(wide), api.OK},
		"is none":              {elements(wide), asm(op(api.Op1sub)), nil, api.ErrNum},
		"none of one":          {nil, asm(op(api.OpNot)), nil, api.ErrStack},
		"none of two":          {elements(1), asm(op(api.OpAdd)), nil, api.ErrStack},
		"the top first":        {elements([]byte{0}), asm(op(api.OpAdd)), nil, api.ErrNum},
		"then the one below":   {elements([]byte{0}, 1), asm(op(api.OpAdd)), nil, api.ErrNum},
		"numeq":                {elements(3, 3), asm(op(api.OpNumeq)), elements(1), api.OK},
		"numeqv":               {elements(8, 3, 3), asm(op(api.OpNumeqv)), elements(8), api.OK},
		"numeqv of others":     {elements(8, 3, 4), asm(op(api.OpNumeqv)), nil, api.ErrVerify},
		"numne":                {elements(3, 4), asm(op(api.OpNumne)), elements(1), api.OK},
		"within":               {elements(8, 3, 3, 5), asm(op(api.OpWithin)), elements(8, 1), api.OK},
		"without":              {elements(5, 3, 5), asm(op(api.OpWithin)), elements(0), api.OK},
		"too low":              {elements(2, 3, 5), asm(op(api.OpWithin)), elements(0), api.OK},
		"within what":          {elements(3, 5), asm(op(api.OpWithin)), nil, api.ErrStack},
		"within, no integer":   {elements([]byte{0}, 3, 5), asm(op(api.OpWithin)), nil, api.ErrNum},
	})
}

// P13.1
func TestBranches(t *testing.T) {
	yes, not, other, end := op(api.OpIf), op(api.OpNotif), op(api.OpElse), op(api.OpEndif)
	check(t, map[string]c{
		"if":                     {elements(1), asm(yes, 2, end, 3), elements(2, 3), api.OK},
		"if not":                 {elements(0), asm(yes, 2, end, 3), elements(3), api.OK},
		"notif":                  {elements(0), asm(not, 2, end), elements(2), api.OK},
		"notif true":             {elements(9), asm(not, 2, end), nil, api.OK},
		"any true one":           {elements([]byte("x")), asm(yes, 2, end), elements(2), api.OK},
		"minus 0 is false":       {elements([]byte{0x80}), asm(yes, 2, other, 3, end), elements(3), api.OK},
		"else taken":             {elements(0), asm(yes, 2, other, 3, end), elements(3), api.OK},
		"else not taken":         {elements(1), asm(yes, 2, other, 3, end), elements(2), api.OK},
		"else again":             {elements(1), asm(yes, 2, other, 3, other, 4, end), elements(2, 4), api.OK},
		"nested":                 {elements(0, 1), asm(yes, yes, 2, other, 3, end, other, 4, end), elements(3), api.OK},
		"in what is not taken":   {elements(0), asm(yes, yes, 2, other, 3, end, 5, other, 4, end), elements(4), api.OK},
		"notif in it":            {elements(0), asm(yes, not, 2, other, 3, end, end, 4), elements(4), api.OK},
		"deep in it":             {elements(0), asm(yes, yes, other, yes, 1, other, 2, end, other, 3, end, other, 4, end), elements(4), api.OK},
		"only the top is taken":  {elements(7, 1), asm(yes, end), elements(7), api.OK},
		"none":                   {nil, asm(yes, end), nil, api.ErrStack},
		"notif of none":          {nil, asm(not, end), nil, api.ErrStack},
		"else alone":             {elements(1), asm(other), nil, api.ErrFlow},
		"endif alone":            {elements(1), asm(end), nil, api.ErrFlow},
		"one endif too many":     {elements(1), asm(yes, end, end), nil, api.ErrFlow},
		"else behind it":         {elements(1), asm(yes, end, other), nil, api.ErrFlow},
		"still open":             {elements(1), asm(yes, 1), nil, api.ErrFlow},
		"open, not taken":        {elements(0), asm(yes), nil, api.ErrFlow},
		"open inside":            {elements(1, 1), asm(yes, yes, end), nil, api.ErrFlow},
		"the error first":        {elements(1), asm(yes, op(api.OpReturn)), nil, api.ErrReturn},
		"return not executed":    {elements(0), asm(yes, op(api.OpReturn), op(0xFF), op(api.OpVerify), end), nil, api.OK},
		"pushes not executed":    {elements(0), asm(yes, 5, []byte("abc"), end), nil, api.OK},
		"branches of two scopes": {elements(1, 0), asm(yes, 1, other, 2, end, yes, 3, other, 4, end), elements(1, 3), api.OK},
	})
}

// P13.1
func TestSignatures(t *testing.T) {
	one, several := op(api.OpSig), op(api.OpMulti)
	wrong := slices.Clone(sig(1))
	wrong[40] ^= 1
	check(t, map[string]c{
		"sig":               {elements(7, sig(1), key(1)), asm(one), elements(7, 1), api.OK},
		"another key":       {elements(sig(1), key(2)), asm(one), elements(0), api.OK},
		"wrong":             {elements(wrong, key(1)), asm(one), elements(0), api.OK},
		"exchanged":         {elements(key(1), sig(1)), asm(one), elements(0), api.OK},
		"another digest":    {elements(sign.Sign(secret(1), api.Hash{9}), key(1)), asm(one), elements(0), api.OK},
		"no key at all":     {elements(sig(1), 0), asm(one), elements(0), api.OK},
		"one only":          {elements(key(1)), asm(one), nil, api.ErrStack},
		"sigv":              {elements(7, sig(1), key(1)), asm(op(api.OpSigv)), elements(7), api.OK},
		"sigv wrong":        {elements(sig(2), key(1)), asm(op(api.OpSigv)), nil, api.ErrVerify},
		"1 of 1":            {elements(7, 0, sig(1), 1, key(1), 1), asm(several), elements(7, 1), api.OK},
		"2 of 3":            {elements(0, sig(1), sig(3), 2, key(1), key(2), key(3), 3), asm(several), elements(1), api.OK},
		"wrong order":       {elements(0, sig(3), sig(1), 2, key(1), key(2), key(3), 3), asm(several), elements(0), api.OK},
		"one twice":         {elements(0, sig(1), sig(1), 2, key(1), key(2), key(3), 3), asm(several), elements(0), api.OK},
		"a key twice":       {elements(0, sig(1), sig(1), 2, key(1), key(2), key(1), 3), asm(several), elements(1), api.OK},
		"one wrong":         {elements(0, sig(1), wrong, 2, key(1), key(2), key(3), 3), asm(several), elements(0), api.OK},
		"none of 2":         {elements(0, 0, key(1), key(2), 2), asm(several), elements(1), api.OK},
		"none of none":      {elements(0, 0, 0), asm(several), elements(1), api.OK},
		"multiv":            {elements(7, 0, sig(2), 1, key(1), key(2), 2), asm(op(api.OpMultiv)), elements(7), api.OK},
		"multiv wrong":      {elements(7, 0, sig(3), 1, key(1), key(2), 2), asm(op(api.OpMultiv)), nil, api.ErrVerify},
		"element not empty": {elements(1, sig(1), 1, key(1), 1), asm(several), nil, api.ErrVerify},
		"zero is not empty": {elements([]byte{0}, sig(1), 1, key(1), 1), asm(several), nil, api.ErrVerify},
		"no element":        {elements(sig(1), 1, key(1), 1), asm(several), nil, api.ErrStack},
		"nothing":           {nil, asm(several), nil, api.ErrStack},
		"no integer":        {elements(0, []byte{0}), asm(several), nil, api.ErrNum},
		"-1 keys":           {elements(0, 0, -1), asm(several), nil, api.ErrKeys},
		"21 keys":           {elements(0, 0, 21), asm(several), nil, api.ErrKeys},
		"too few keys":      {elements(key(1), 2), asm(several), nil, api.ErrStack},
		"no number of sigs": {elements(key(1), 1), asm(several), nil, api.ErrStack},
		"sigs: no integer":  {elements([]byte{0}, key(1), 1), asm(several), nil, api.ErrNum},
		"-1 sigs":           {elements(0, -1, key(1), 1), asm(several), nil, api.ErrKeys},
		"more sigs":         {elements(0, sig(1), sig(1), 2, key(1), 1), asm(several), nil, api.ErrKeys},
		"too few sigs":      {elements(sig(1), 2, key(1), key(2), 2), asm(several), nil, api.ErrStack},
		"errors in order":   {elements(1, 5, key(1), 1), asm(several), nil, api.ErrKeys},
	})
	var on []any
	for n := range 20 {
		on = append(on, key(n))
	}
	full := elements(slices.Concat([]any{0, sig(0), sig(19), 2}, on, []any{20})...)
	if got, e := run(t, full, asm(several)); e != api.OK || !same(got, elements(1)) {
		t.Errorf("20 keys: %x, %d", got, e)
	}
}

// P13.1
func TestLong(t *testing.T) {
	nop, several := op(api.OpNop), op(api.OpMulti)
	nothing := asm(0, op(api.OpIf))
	full := make([][]byte, 100)
	check(t, map[string]c{
		"520 bytes":             {nil, asm(make([]byte, 517)), elements(make([]byte, 517)), api.OK},
		"521 bytes":             {nil, asm(make([]byte, 518)), nil, api.ErrLong},
		"521, no operations":    {nil, append(make([]byte, 520), 1), nil, api.ErrLong},
		"100 operations":        {nil, times(100, nop), nil, api.OK},
		"101 operations":        {nil, times(101, nop), nil, api.ErrLong},
		"101, not executed":     {nil, slices.Concat(nothing, times(100, nop), asm(op(api.OpEndif))), nil, api.ErrLong},
		"100, not executed":     {nil, slices.Concat(nothing, times(98, nop), asm(op(api.OpEndif))), nil, api.OK},
		"unknown ones count":    {nil, slices.Concat(nothing, times(99, 0xFF), asm(op(api.OpEndif))), nil, api.ErrLong},
		"the 101st is a return": {nil, append(times(100, nop), api.OpReturn), nil, api.ErrLong},
		"the 100th is a return": {nil, append(times(99, nop), api.OpReturn), nil, api.ErrReturn},
		"the 101st is an else":  {nil, append(times(100, nop), api.OpElse), nil, api.ErrLong},
		"pushes do not count":   {elements(make([]any, 0)...), slices.Concat(times(100, nop), times(50, api.OpOne)), elements(slices.Repeat([]any{1}, 50)...), api.OK},
		"keys count":            {elements(0, 0, key(1), 1), slices.Concat(times(98, nop), asm(several)), elements(1), api.OK},
		"one key too many":      {elements(0, 0, key(1), 1), slices.Concat(times(99, nop), asm(several)), nil, api.ErrLong},
		"keys count first":      {elements(9), slices.Concat(times(91, nop), asm(several)), nil, api.ErrLong},
		"then they are removed": {elements(9), slices.Concat(times(90, nop), asm(several)), nil, api.ErrStack},
		"too many keys first":   {elements(21), slices.Concat(times(99, nop), asm(several)), nil, api.ErrKeys},
		"keys not executed":     {elements(5), slices.Concat(nothing, times(96, nop), asm(several, op(api.OpEndif))), elements(5), api.OK},
		"sigs do not count":     {elements(0, sig(1), 1, key(1), 1), slices.Concat(times(98, nop), asm(several)), elements(1), api.OK},
		"deep":                  {full, asm(op(api.OpOne)), nil, api.ErrDeep},
		"deep by an operation":  {full, asm(op(api.OpDup)), nil, api.ErrDeep},
		"deep, both stacks":     {full, asm(op(api.OpToalt), op(api.OpOne)), nil, api.ErrDeep},
		"full":                  {full[:99], asm(op(0)), full, api.OK},
	})
}

// P13.1
func TestNoStack(t *testing.T) {
	for _, s := range []*stack.Stack{nil, {}} {
		for _, b := range [][]byte{nil, asm(1), make([]byte, 521), asm("\x02")} {
			if after, e := script.Run(s, b, digest); after != nil || e != api.ErrNil {
				t.Error(after, e)
			}
		}
	}
}

// P13.1: the alternative stack is not given on
func TestAlternativeStackIsEmpty(t *testing.T) {
	s, _ := stack.New([]byte("a"), []byte("b"))
	s.Do(api.OpToalt)
	if after, e := script.Run(s, asm(op(api.OpFromalt)), digest); after != nil || e != api.ErrStack {
		t.Error(after, e)
	}
	after, e := script.Run(s, asm(op(api.OpDup)), digest)
	if e != api.OK || !same(after.All(), [][]byte{[]byte("a"), []byte("a")}) || len(after.Other()) != 0 {
		t.Error(after.All(), e)
	}
	if !same(s.All(), [][]byte{[]byte("a")}) || !same(s.Other(), [][]byte{[]byte("b")}) {
		t.Error("Run changes its argument")
	}
}

// P13.2
func TestEnds(t *testing.T) {
	three := asm(2, key(1), key(2), key(3), 3, op(api.OpMulti))
	for name, c := range map[string]struct {
		unlock, lock []byte
		want         api.Errno
	}{
		"sum":                {asm(2, 3), asm(op(api.OpAdd), 5, op(api.OpEqual)), api.OK},
		"another sum":        {asm(2, 3), asm(op(api.OpAdd), 6, op(api.OpEqual)), api.ErrVerify},
		"signature":          {asm(sig(1)), asm(key(1), op(api.OpSig)), api.OK},
		"another signature":  {asm(sig(2)), asm(key(1), op(api.OpSig)), api.ErrVerify},
		"branch":             {asm(1), asm(op(api.OpIf), 2, op(api.OpElse), op(api.OpReturn), op(api.OpEndif)), api.OK},
		"other branch":       {asm(0), asm(op(api.OpIf), 2, op(api.OpElse), op(api.OpReturn), op(api.OpEndif)), api.ErrReturn},
		"else alone":         {asm(1), asm(op(api.OpElse)), api.ErrFlow},
		"not only pushes":    {asm(op(api.OpNop)), asm(1), api.ErrVerify},
		"no script":          {asm("\x02a"), asm(1), api.ErrVerify},
		"2 of 3":             {asm(0, sig(1), sig(3)), three, api.OK},
		"exchanged":          {asm(0, sig(3), sig(1)), three, api.ErrVerify},
		"both empty":         {nil, nil, api.ErrStack},
		"lock empty":         {asm(1), nil, api.OK},
		"lock empty, false":  {asm(1, 0), nil, api.ErrVerify},
		"unlock empty":       {nil, asm(1), api.OK},
		"minus 0":            {nil, asm([]byte{0, 0x80}), api.ErrVerify},
		"nothing left":       {asm(1), asm(op(api.OpDrop)), api.ErrStack},
		"only the top":       {asm(0), asm(1), api.OK},
		"unlock too long":    {bytes.Repeat([]byte{0}, 521), asm(1), api.ErrLong},
		"long and no pushes": {times(521, api.OpNop), asm(1), api.ErrVerify},
		"unlock too deep":    {bytes.Repeat([]byte{api.OpOne}, 101), asm(op(0xFF)), api.ErrDeep},
		"lock too long":      {asm(1), make([]byte, 521), api.ErrLong},
		"lock no script":     {asm(1), asm("\x02"), api.ErrOps},
		"lock too deep":      {bytes.Repeat([]byte{api.OpOne}, 100), asm(1), api.ErrDeep},
		"unknown":            {asm(1), asm(op(0xFF)), api.ErrOp},
		"counted apart":      {asm(1), times(100, api.OpNop), api.OK},
		"no integer":         {asm([]byte{0}), asm(op(api.Op1add)), api.ErrNum},
		"keys":               {asm(21), asm(op(api.OpMulti)), api.ErrKeys},
	} {
		if e := script.Ends(c.unlock, c.lock, digest); e != c.want {
			t.Errorf("%s: %d", name, e)
		}
	}
	if e := script.Ends(asm(sig(1)), asm(key(1), op(api.OpSig)), api.Hash{9}); e != api.ErrVerify {
		t.Error("another digest", e)
	}
}

// matches tells by search whether there are later and later keys for all signatures.
func matches(keys, sigs [][]byte) bool {
	if len(sigs) == 0 {
		return true
	}
	for i := range keys {
		if sign.Is(keys[i], sigs[0], digest) && matches(keys[i+1:], sigs[1:]) {
			return true
		}
	}
	return false
}

// P13.2
func TestMatch(t *testing.T) {
	r := rand.New(rand.NewSource(1))
	found := 0
	for range 2000 {
		var keys, sigs [][]byte
		for range r.Intn(6) {
			keys = append(keys, key(r.Intn(3)))
		}
		for range r.Intn(4) {
			sigs = append(sigs, sig(r.Intn(3)))
		}
		want := matches(keys, sigs)
		if got := script.Match(keys, sigs, digest); got != want {
			t.Errorf("%x %x: %v", keys, sigs, got)
		}
		if want {
			found++
		}
	}
	if found < 100 || found > 1900 {
		t.Error("the cases are of one kind:", found)
	}
	var keys, sigs [][]byte
	for n := range 150 {
		keys, sigs = append(keys, key(n)), append(sigs, sig(n))
	}
	if !script.Match(keys, sigs, digest) || script.Match(keys, sigs, api.Hash{}) || !script.Match(nil, nil, digest) || script.Match(nil, sigs[:1], digest) {
		t.Error("many, or none")
	}
}

// P13.4
func TestInParts(t *testing.T) {
	parts := [][]byte{
		asm(1, 2, 3), asm(op(api.OpDup), op(api.OpAdd)), asm(op(api.OpIf), 4, op(api.OpElse), 5, op(api.OpEndif)), asm(op(api.OpSwap)),
		asm(op(api.OpToalt), op(api.OpFromalt)), asm([]byte("text"), op(api.OpSha)), asm(op(api.OpDepth)), asm(op(api.OpDrop)), asm(op(api.OpVerify)),
	}
	r := rand.New(rand.NewSource(2))
	for range 500 {
		var whole []byte
		on, e := [][]byte{}, api.OK
		for range 1 + r.Intn(8) {
			part := parts[r.Intn(len(parts))]
			whole = append(whole, part...)
			if e == api.OK {
				on, e = run(t, on, part)
			}
		}
		if got, f := run(t, nil, whole); f != e || !same(got, on) {
			t.Errorf("%x: %x %d, in parts %x %d", whole, got, f, on, e)
		}
	}
}

// P13.3
func TestNothingIsShared(t *testing.T) {
	unlock, lock := asm(sig(1)), asm(key(1), op(api.OpSig))
	script.Ends(unlock, lock, digest)
	if !bytes.Equal(unlock, asm(sig(1))) || !bytes.Equal(lock, asm(key(1), op(api.OpSig))) {
		t.Error("Ends changes its arguments")
	}
	keys, sigs := [][]byte{key(1), key(2)}, [][]byte{sig(1), sig(2)}
	script.Match(keys, sigs, digest)
	if !same(keys, [][]byte{key(1), key(2)}) || !same(sigs, [][]byte{sig(1), sig(2)}) {
		t.Error("Match changes its arguments")
	}
}
