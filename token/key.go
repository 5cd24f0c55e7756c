package token

import (
	"notary/api"
	"notary/digest"
)

const (
	maxKid = 40
	maxKey = 200
)

// ways are the ways of signing.
var ways = [...]struct {
	alg  int
	name string
}{
	{256, "HS256"},
	{384, "HS384"},
	{512, "HS512"},
}

// AlgName tells an alg's name, or nothing if it is none.
func AlgName(alg int) string {
	for _, way := range ways {
		if way.alg == alg {
			return way.name
		}
	}
	return ""
}

// AlgOf tells the alg of a name, or 0 if it is none's.
func AlgOf(name string) int {
	for _, way := range ways {
		if way.name == name {
			return way.alg
		}
	}
	return 0
}

// Kid tells whether a text is a key's name.
func Kid(s string) bool {
	if len(s) < 1 || len(s) > maxKid {
		return false
	}
	for i := range len(s) {
		if !ofKid(s[i]) {
			return false
		}
	}
	return true
}

// ofKid tells whether a byte may stand in a kid.
func ofKid(b byte) bool {
	switch {
	case b >= 'A' && b <= 'Z', b >= 'a' && b <= 'z', b >= '0' && b <= '9':
		return true
	}
	return b == '-' || b == '_'
}

// Fits tells whether a key may sign by an alg; by an alg that is none, no key does.
func Fits(key string, alg int) bool {
	size := digest.Size(alg)
	return size > 0 && len(key) >= size && len(key) <= maxKey
}

// CheckKey tells what is wrong with a key that is to sign.
func CheckKey(key api.Key) api.Errno {
	switch {
	case AlgName(key.Alg) == "":
		return api.ErrAlg
	case !Kid(key.Kid):
		return api.ErrKid
	case !Fits(key.Key, key.Alg):
		return api.ErrKey
	}
	return api.OK
}
