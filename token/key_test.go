package token_test

import (
	"math"
	"strconv"
	"testing"

	"notary/api"
	"notary/token"
)

func TestAlgNames(t *testing.T) {
	for _, alg := range algs {
		name := "HS" + strconv.Itoa(alg)
		if got := token.AlgName(alg); got != name {
			t.Errorf("AlgName(%d) = %q, want %q", alg, got, name)
		}
		if got := token.AlgOf(name); got != alg {
			t.Errorf("AlgOf(%q) = %d, want %d", name, got, alg)
		}
	}
	for _, alg := range []int{0, 1, -256, 255, 257, math.MaxInt, math.MinInt} {
		if got := token.AlgName(alg); got != "" {
			t.Errorf("AlgName(%d) = %q, want none", alg, got)
		}
	}
	for _, name := range []string{"", "HS", "256", "hs256", "HS256 ", "HS0", "none"} {
		if got := token.AlgOf(name); got != 0 {
			t.Errorf("AlgOf(%q) = %d, want 0", name, got)
		}
	}
}

func TestFits(t *testing.T) {
	for _, alg := range append([]int{0, 1, -256, 255}, algs...) {
		for n := range maxKey + 60 {
			want := alg >= 256 && n >= alg/8 && n <= maxKey
			if got := token.Fits(keyOf(n), alg); got != want {
				t.Errorf("Fits(a key of %d bytes, %d) = %v, want %v", n, alg, got, want)
			}
		}
	}
}

func TestCheckKey(t *testing.T) {
	for _, c := range []struct {
		key  api.Key
		want api.Errno
	}{
		{api.Key{}, api.ErrAlg},
		{api.Key{Kid: "k", Key: right(256)}, api.ErrAlg},
		{api.Key{Alg: 256}, api.ErrKid},
		{api.Key{Alg: 256, Kid: "k 1", Key: right(256)}, api.ErrKid},
		{api.Key{Alg: 512, Kid: "k", Key: right(256)}, api.ErrKey},
		{api.Key{Alg: 256, Kid: "k", Key: right(512)}, api.OK},
	} {
		if got := token.CheckKey(c.key); got != c.want {
			t.Errorf("CheckKey(%v) = %d, want %d", c.key, got, c.want)
		}
	}
}
