package claims_test

import (
	"math"
	"math/big"
	"testing"

	"notary/api"
	"notary/claims"
)

func check(t *testing.T, c api.Claims, now, leeway int, iss, aud string, want api.Errno) {
	t.Helper()
	if got := claims.Check(c, now, leeway, iss, aud); got != want {
		t.Errorf("Check(%v, %d, %d, %q, %q) = %d, want %d", c, now, leeway, iss, aud, got, want)
	}
}

// from tells claims that hold from nbf on and until exp, of it and for me.
func from(nbf, exp int) api.Claims {
	return api.Claims{Iss: "it", Aud: []string{"me"}, Nbf: nbf, Exp: exp}
}

func TestD2Edges(t *testing.T) {
	for _, c := range []struct {
		now, leeway int
		want        api.Errno
	}{
		{0, 0, api.ErrEarly}, {9, 0, api.ErrEarly}, {10, 0, api.OK}, {19, 0, api.OK}, {20, 0, api.ErrLate}, {21, 0, api.ErrLate},
		{7, 2, api.ErrEarly}, {8, 2, api.OK}, {21, 2, api.OK}, {22, 2, api.ErrLate},
		{0, 9, api.ErrEarly}, {0, 10, api.OK}, {0, 11, api.OK}, {29, 10, api.OK}, {30, 10, api.ErrLate},
		{0, maxLeeway, api.OK}, {maxLeeway + 19, maxLeeway, api.OK}, {maxLeeway + 20, maxLeeway, api.ErrLate},
		{maxInt, 0, api.ErrLate}, {maxInt, maxLeeway, api.ErrLate},
	} {
		check(t, from(10, 20), c.now, c.leeway, "it", "me", c.want)
	}
}

func TestD2Range(t *testing.T) {
	all := from(0, maxInt)
	for _, now := range []int{-1, maxInt + 1, math.MinInt, math.MaxInt, -maxInt} {
		check(t, all, now, 0, "it", "me", api.ErrRange)
		check(t, api.Claims{}, now, 0, "it", "me", api.ErrRange)
		check(t, all, now, -1, "it", "me", api.ErrRange)
	}
	for _, leeway := range []int{-1, maxLeeway + 1, math.MinInt, math.MaxInt, maxInt} {
		check(t, all, 5, leeway, "it", "me", api.ErrRange)
		check(t, all, maxInt, leeway, "x", "y", api.ErrRange)
	}
	for _, leeway := range []int{0, 1, maxLeeway} {
		check(t, all, 0, leeway, "it", "me", api.OK)
		check(t, all, maxInt-1, leeway, "it", "me", api.OK)
	}
	check(t, all, maxInt, 0, "it", "me", api.ErrLate)
	check(t, all, maxInt, 1, "it", "me", api.OK)
}

func TestD2Who(t *testing.T) {
	c := api.Claims{Iss: "it", Aud: []string{"me", "you", "", "é"}, Exp: 1}
	for _, iss := range []string{"", "It", "it ", "i", "itt", "me", "it\x00"} {
		check(t, c, 0, 0, iss, "me", api.ErrIss)
	}
	for _, aud := range []string{"me", "you", "", "é"} {
		check(t, c, 0, 0, "it", aud, api.OK)
	}
	for _, aud := range []string{"Me", "m", "mee", "it", "me you", "\x00"} {
		check(t, c, 0, 0, "it", aud, api.ErrAud)
	}
	check(t, api.Claims{Iss: "it", Exp: 1}, 0, 0, "it", "", api.ErrAud)
	check(t, api.Claims{Aud: []string{""}, Exp: 1}, 0, 0, "", "", api.OK)
	check(t, api.Claims{Iss: "\xff", Aud: []string{"\xfe"}, Exp: 1}, 0, 0, "\xff", "\xfe", api.OK)
}

// Of several that apply, the one named first.
func TestD2Order(t *testing.T) {
	both := from(30, 10) // early and late at 20
	check(t, both, 20, 0, "it", "me", api.ErrEarly)
	check(t, both, 20, 9, "it", "me", api.ErrEarly)
	check(t, both, 20, 10, "it", "me", api.ErrLate)
	check(t, both, 20, 11, "it", "me", api.OK)
	check(t, both, 20, 0, "it", "x", api.ErrAud)
	check(t, both, 20, 0, "x", "x", api.ErrIss)
	check(t, both, 20, -1, "x", "x", api.ErrRange)
	check(t, both, -1, 0, "x", "x", api.ErrRange)
	check(t, both, 40, 0, "it", "x", api.ErrAud)
	check(t, both, 40, 0, "x", "me", api.ErrIss)
}

// wantedTime reckons as whole numbers of any size.
func wantedTime(c api.Claims, now, leeway int) api.Errno {
	n, l := big.NewInt(int64(now)), big.NewInt(int64(leeway))
	if n.Cmp(new(big.Int).Sub(big.NewInt(int64(c.Nbf)), l)) < 0 {
		return api.ErrEarly
	}
	if n.Cmp(new(big.Int).Add(big.NewInt(int64(c.Exp)), l)) >= 0 {
		return api.ErrLate
	}
	return api.OK
}

func TestD2AnySize(t *testing.T) {
	var ends []int
	for _, n := range []int{0, 5, maxLeeway, maxInt, maxInt + maxLeeway, -maxLeeway, -maxInt, math.MinInt + maxLeeway, math.MaxInt - maxLeeway} {
		ends = append(ends, n-1, n, n+1)
	}
	ends = append(ends, math.MinInt, math.MinInt+1, math.MaxInt-1, math.MaxInt)
	for _, nbf := range ends {
		for _, exp := range ends {
			for _, now := range []int{0, 1, 5, maxLeeway - 1, maxLeeway, maxLeeway + 1, maxInt - maxLeeway, maxInt - 1, maxInt} {
				for _, leeway := range []int{0, 1, maxLeeway - 1, maxLeeway} {
					c := from(nbf, exp)
					check(t, c, now, leeway, "it", "me", wantedTime(c, now, leeway))
				}
			}
		}
	}
}

// When claims were made is not looked at.
func TestD2Iat(t *testing.T) {
	for _, iat := range []int{0, -1, 15, maxInt, math.MaxInt, math.MinInt} {
		c := from(10, 20)
		c.Iat = iat
		check(t, c, 10, 0, "it", "me", api.OK)
		check(t, c, 9, 0, "it", "me", api.ErrEarly)
	}
}
