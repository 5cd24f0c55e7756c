package issuer_test

import (
	"math"
	"slices"
	"strings"
	"testing"

	"notary/api"
	"notary/issuer"
)

func TestI2Tick(t *testing.T) {
	s := newIssuer(t, "it", 10)
	checkTick(t, s, 0, 0)
	checkTick(t, s, 5, 5)
	for _, n := range []int{-1, -5, -6, math.MinInt} {
		checkNoTick(t, s, n)
		checkTick(t, s, 0, 5)
	}
	checkTick(t, s, 1, 6)
	checkTick(t, s, maxInt-7, maxInt-1)
	checkTick(t, s, 1, maxInt)
	checkTick(t, s, 1, maxInt)
	checkTick(t, s, math.MaxInt, maxInt)
	checkNoTick(t, s, -1)
	checkTick(t, s, 0, maxInt)
	for _, n := range []int{maxInt, maxInt + 1, math.MaxInt} {
		s := newIssuer(t, "it", 10)
		checkTick(t, s, n, maxInt)
		s = newIssuer(t, "it", 10)
		checkTick(t, s, 1, 1)
		checkTick(t, s, n, maxInt)
	}
}

// Keys of each length, those at the edges among them.
func TestI3Lengths(t *testing.T) {
	for _, alg := range algs {
		for n := range maxKey + 60 {
			s := newIssuer(t, "it", 10)
			if n < alg/8 || n > maxKey {
				checkNoRotate(t, s, alg, bytesOf(n), api.ErrKey)
				checkExport(t, s, `{"keys":[]}`)
			} else {
				checkRotate(t, s, alg, bytesOf(n), "k1")
				checkExport(t, s, setOf(api.Key{Alg: alg, Kid: "k1", Key: bytesOf(n)}))
			}
		}
		checkNoRotate(t, newIssuer(t, "it", 10), alg, bytesOf(1000000), api.ErrKey)
	}
}

func TestI3NoAlg(t *testing.T) {
	s := newIssuer(t, "it", 10)
	for _, alg := range append([]int{math.MinInt, math.MaxInt}, noAlgs...) {
		for _, n := range []int{0, 31, 32, 64, maxKey, maxKey + 1} {
			checkNoRotate(t, s, alg, bytesOf(n), api.ErrAlg)
		}
	}
	checkRotate(t, s, 512, right(512), "k1")
}

// fill tells an issuer with as many keys as it may have, and these.
func fill(t *testing.T) (*issuer.Issuer, []api.Key) {
	t.Helper()
	s := newIssuer(t, "it", 10)
	var l []api.Key
	for n := 1; n <= maxKeys; n++ {
		alg := algs[n%3]
		checkRotate(t, s, alg, bytesOf(alg/8+n), kid(n))
		l = append(l, api.Key{Alg: alg, Kid: kid(n), Key: bytesOf(alg/8 + n)})
		checkExport(t, s, setOf(l...))
	}
	return s, l
}

func TestI3Many(t *testing.T) {
	s, l := fill(t)
	for range 3 {
		checkNoRotate(t, s, 256, right(256), api.ErrMany)
	}
	// What is wrong with the key itself is told first.
	checkNoRotate(t, s, 1, right(256), api.ErrAlg)
	checkNoRotate(t, s, 256, bytesOf(31), api.ErrKey)
	checkNoRotate(t, s, 512, bytesOf(maxKey+1), api.ErrKey)
	checkExport(t, s, setOf(l...))
	checkIssue(t, s, me, tokenOf(l[maxKeys-1], madeOf("it", 0, 10)))
	// A key that goes makes room for one, and the refused rotations have no number.
	checkRetire(t, s, "k7")
	checkRotate(t, s, 256, right(256), kid(maxKeys+1))
	l = append(slices.Delete(l, 6, 7), api.Key{Alg: 256, Kid: kid(maxKeys + 1), Key: right(256)})
	checkExport(t, s, setOf(l...))
	checkNoRotate(t, s, 256, right(256), api.ErrMany)
}

// The numbers go on by the rotations that were OK, whatever was refused or retired between.
func TestI3Numbers(t *testing.T) {
	s := newIssuer(t, "it", 10)
	checkNoRotate(t, s, 1, right(256), api.ErrAlg)
	checkNoRotate(t, s, 256, "short", api.ErrKey)
	checkRotate(t, s, 256, right(256), "k1")
	checkNoRotate(t, s, 384, right(256), api.ErrKey)
	checkRotate(t, s, 256, right(256), "k2")
	checkRetire(t, s, "k2")
	checkNoRetire(t, s, "k2")
	checkRotate(t, s, 256, right(256), "k3")
	checkRetire(t, s, "k1")
	checkRetire(t, s, "k3")
	checkExport(t, s, `{"keys":[]}`)
	checkNoRotate(t, s, 0, "", api.ErrAlg)
	for n := 4; n <= 1200; n++ {
		checkRotate(t, s, 256, right(256), kid(n))
		checkExport(t, s, setOf(api.Key{Alg: 256, Kid: kid(n), Key: right(256)}))
		checkRetire(t, s, kid(n))
	}
}

// The same key may be there twice: it is another one, by its kid.
func TestI3SameKey(t *testing.T) {
	s := newIssuer(t, "it", 10)
	checkRotate(t, s, 256, bytesOf(64), "k1")
	checkRotate(t, s, 256, bytesOf(64), "k2")
	checkRotate(t, s, 512, bytesOf(64), "k3")
	checkExport(t, s, setOf(api.Key{Alg: 256, Kid: "k1", Key: bytesOf(64)}, api.Key{Alg: 256, Kid: "k2", Key: bytesOf(64)}, api.Key{Alg: 512, Kid: "k3", Key: bytesOf(64)}))
	checkRetire(t, s, "k2")
	checkExport(t, s, setOf(api.Key{Alg: 256, Kid: "k1", Key: bytesOf(64)}, api.Key{Alg: 512, Kid: "k3", Key: bytesOf(64)}))
}

func TestI3Retire(t *testing.T) {
	for n := range maxKeys {
		s, l := fill(t)
		checkRetire(t, s, kid(n+1))
		l = slices.Delete(l, n, n+1)
		checkExport(t, s, setOf(l...))
		checkNoRetire(t, s, kid(n+1))
	}
	s, l := fill(t)
	for _, no := range []string{"", "k", "k0", "1", "K1", "k01", "k 1", " k1", "k1 ", "k21", "k1\x00", "k-1", "\xff", "k1k2", strings.Repeat("k", 1000000)} {
		checkNoRetire(t, s, no)
	}
	checkExport(t, s, setOf(l...))
	for n := range l {
		checkRetire(t, s, kid(n+1))
		checkExport(t, s, setOf(l[n+1:]...))
	}
	checkNoRetire(t, s, "k1")
	checkNoIssue(t, s, me, api.ErrNone)
}

func TestI4Order(t *testing.T) {
	s := newIssuer(t, "it", 10)
	checkExport(t, s, `{"keys":[]}`)
	checkRotate(t, s, 256, strings.Repeat("k", 32), "k1")
	checkExport(t, s, `{"keys":[{"alg":"HS256","k":"a2tra2tra2tra2tra2tra2tra2tra2tra2tra2tra2s","kid":"k1","kty":"oct"}]}`)
	var l []api.Key
	l = append(l, api.Key{Alg: 256, Kid: "k1", Key: strings.Repeat("k", 32)})
	for n := 2; n <= 12; n++ {
		alg := algs[n%3]
		checkRotate(t, s, alg, bytesOf(maxKey-n), kid(n))
		l = append(l, api.Key{Alg: alg, Kid: kid(n), Key: bytesOf(maxKey - n)})
	}
	// k10 to k12 stand behind k9, though a text of theirs would be ahead of it.
	checkExport(t, s, setOf(l...))
	checkExport(t, s, setOf(l...))
	checkRetire(t, s, "k5")
	checkRotate(t, s, 384, right(384), "k13")
	l = append(slices.Delete(l, 4, 5), api.Key{Alg: 384, Kid: "k13", Key: right(384)})
	checkExport(t, s, setOf(l...))
}
