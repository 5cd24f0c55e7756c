package door_test

import (
	"math"
	"strings"
	"testing"

	"notary/api"
)

// wrongNames are texts that are neither an iss nor an aud: bytes count, not runes.
var wrongNames = []string{
	"", strings.Repeat("a", maxName+1), strings.Repeat("é", maxName/2) + "a", strings.Repeat("é", maxName/2+1), strings.Repeat("😀", maxName/4+1), strings.Repeat("a", 100000),
	"\xff", "it\x80", "\xc3", "\xc3(", "\xc0\x80", "\xe0\x9f\xbf", "\xed\xa0\x80", "\xed\xbf\xbf", "\xf0\x8f\xbf\xbf", "\xf4\x90\x80\x80", "é\xe2\x82", strings.Repeat("a", maxName-1) + "\xff", strings.Repeat("\xff", maxName+1),
}

// rightNames are texts that are an iss, and an aud, beside what the one form writes for them.
var rightNames = map[string]string{
	"i":                             "i",
	" ":                             " ",
	"a/b":                           "a/b",
	"\x00\"\\\n":                    `\u0000\"\\\n`,
	"é€😀\U0010ffff\ufffd":           "é€😀\U0010ffff\ufffd",
	strings.Repeat("a", maxName):    strings.Repeat("a", maxName),
	strings.Repeat("é", maxName/2):  strings.Repeat("é", maxName/2),
	strings.Repeat("😀", maxName/4):  strings.Repeat("😀", maxName/4),
	strings.Repeat("\x00", maxName): strings.Repeat(`\u0000`, maxName),
}

func TestR1Names(t *testing.T) {
	k := keyOf(256, "a")
	for name, form := range rightNames {
		for _, who := range []struct{ iss, aud, issForm, audForm string }{{name, "me", form, "me"}, {"it", name, "it", form}, {name, name, form, form}} {
			d := newDoor(t, who.iss, who.aud, 0)
			checkAllow(t, d, 256, true)
			checkLoad(t, d, setOf(k))
			checkIs(t, d, k, bodyOf(who.issForm, who.audForm, 0, 1), api.OK)
			checkIs(t, d, k, bodyOf("x"+who.issForm, who.audForm, 0, 1), api.ErrIss)
			checkIs(t, d, k, bodyOf(who.issForm, "x"+who.audForm, 0, 1), api.ErrAud)
		}
	}
	for _, wrong := range wrongNames {
		checkNoNew(t, wrong, "me", 0, api.ErrText)
		checkNoNew(t, "it", wrong, 0, api.ErrText)
		checkNoNew(t, wrong, wrong, 0, api.ErrText)
	}
}

func TestR1Leeway(t *testing.T) {
	for _, leeway := range []int{0, 1, 2, maxLeeway - 1, maxLeeway} {
		newDoor(t, "it", "me", leeway)
	}
	for _, leeway := range []int{-1, -2, -maxLeeway, maxLeeway + 1, maxInt, 1 << 32, math.MinInt, math.MaxInt} {
		checkNoNew(t, "it", "me", leeway, api.ErrRange)
	}
}

func TestR1Order(t *testing.T) {
	for _, wrong := range wrongNames {
		for _, leeway := range []int{-1, maxLeeway + 1, math.MinInt, math.MaxInt} {
			checkNoNew(t, wrong, "me", leeway, api.ErrText)
			checkNoNew(t, "it", wrong, leeway, api.ErrText)
			checkNoNew(t, wrong, wrong, leeway, api.ErrText)
		}
	}
}

// A new door has no key and allows no alg, and its clock stands at 0.
func TestR1Empty(t *testing.T) {
	d := newDoor(t, "it", "me", 0)
	checkTick(t, d, 0, 0)
	for _, alg := range algs {
		checkIs(t, d, keyOf(alg, "k1"), always(), api.ErrNone)
	}
	var l []api.Key
	for _, alg := range algs {
		l = append(l, keyOf(alg, "k"+encode(bytesOf(alg/100))))
	}
	checkLoad(t, d, setOf(l...))
	for _, k := range l {
		checkIs(t, d, k, always(), api.ErrAlg)
		checkAllow(t, d, k.Alg, true)
		checkIs(t, d, k, bodyOf("it", "me", 0, 1), api.OK)
		checkIs(t, d, k, bodyOf("it", "me", 1, 2), api.ErrEarly)
	}
}

func TestR1ShareNothing(t *testing.T) {
	k, other := keyOf(256, "a"), api.Key{Alg: 256, Kid: "a", Key: bytesOf(maxKey)}
	a, b, c := openDoor(t, 0, k), newDoor(t, "it", "me", 0), openDoor(t, 5, other)
	checkTick(t, a, 5, 5)
	checkTick(t, b, 0, 0)
	checkIs(t, a, k, always(), api.OK)
	checkIs(t, b, k, always(), api.ErrNone)
	checkIs(t, c, k, always(), api.ErrSign)
	checkLoad(t, b, setOf(k))
	checkIs(t, b, k, always(), api.ErrAlg)
	checkAllow(t, a, 256, false)
	checkAllow(t, b, 256, true)
	checkIs(t, a, k, always(), api.ErrAlg)
	checkIs(t, b, k, always(), api.OK)
	checkIs(t, c, other, always(), api.OK)
	checkLoad(t, a, setOf())
	checkIs(t, a, k, always(), api.ErrNone)
	checkIs(t, b, k, always(), api.OK)
	checkTick(t, b, 3, 3)
	checkTick(t, a, 1, 6)
	checkTick(t, c, 0, 0)
	checkIs(t, b, k, bodyOf("it", "me", 4, 9), api.ErrEarly)
	checkIs(t, c, other, bodyOf("it", "me", 4, 9), api.OK)
	checkIs(t, newDoor(t, "it", "me", 0), k, always(), api.ErrNone)
}
