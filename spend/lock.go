package spend

import (
	"purser/api"
	"purser/num"
	"purser/ops"
	"purser/sign"
)

const shortSize = 20 // bytes of a short hash

// PayKey returns the locking script of a public key.
func PayKey(key api.Hash) []byte {
	return assemble(func(push func(...[]byte), do func(...byte)) {
		push(key[:])
		do(api.OpSig)
	})
}

// PayShort returns the locking script of a short hash.
func PayShort(short []byte) []byte {
	return assemble(func(push func(...[]byte), do func(...byte)) {
		do(api.OpDup, api.OpHash160)
		push(short[:min(len(short), shortSize)])
		do(api.OpEqualverify, api.OpSig)
	})
}

// PaySeveral returns the locking script of keys, of which n have to sign.
func PaySeveral(n int, keys []api.Hash) ([]byte, api.Errno) {
	if n < 0 || n > len(keys) || len(keys) > api.MaxKeys {
		return nil, api.ErrArg
	}
	return assemble(func(push func(...[]byte), do func(...byte)) {
		push(count(n))
		for _, key := range keys {
			push(key[:])
		}
		push(count(len(keys)))
		do(api.OpMulti)
	}), api.OK
}

// count returns the encoding of a number of keys or signatures.
func count(n int) []byte {
	b, _ := num.Encode(int64(n))
	return b
}

// Signed returns a script that pushes the signature of input n by secret.
func Signed(secret api.Hash, t api.Tx, n int, lock []byte) ([]byte, api.Errno) {
	digest, e := Digest(t, n, lock)
	if e != api.OK {
		return nil, e
	}
	return assemble(func(push func(...[]byte), do func(...byte)) {
		push(sign.Sign(secret, digest))
	}), api.OK
}

// assemble returns the script that parts puts together of pushes and other operations.
func assemble(parts func(push func(...[]byte), do func(...byte))) []byte {
	var l []api.Op
	push := func(values ...[]byte) {
		for _, value := range values {
			o, _ := ops.Push(value)
			l = append(l, o)
		}
	}
	do := func(codes ...byte) {
		for _, code := range codes {
			l = append(l, api.Op{Code: code})
		}
	}
	parts(push, do)
	script, _ := ops.Join(l)
	return script
}
