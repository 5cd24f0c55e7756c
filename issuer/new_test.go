package issuer_test

import (
	"math"
	"strings"
	"testing"

	"notary/api"
)

// wrongNames are texts that are no iss: bytes count, not runes.
var wrongNames = []string{
	"", strings.Repeat("a", maxName+1), strings.Repeat("é", maxName/2) + "a", strings.Repeat("é", maxName/2+1), strings.Repeat("😀", maxName/4+1), strings.Repeat("a", 100000),
	"\xff", "it\x80", "\xc3", "\xc3(", "\xc0\x80", "\xe0\x9f\xbf", "\xed\xa0\x80", "\xed\xbf\xbf", "\xf0\x8f\xbf\xbf", "\xf4\x90\x80\x80", "é\xe2\x82", strings.Repeat("a", maxName-1) + "\xff", strings.Repeat("\xff", maxName+1),
}

// rightNames are texts that are an iss, beside what the one form writes for them.
var rightNames = map[string]string{
	"i":                               "i",
	"it":                              "it",
	" ":                               " ",
	"a/b":                             "a/b",
	"\x00\"\\\n":                      `\u0000\"\\\n`,
	"é€😀\U0010ffff\ufffd":             "é€😀\U0010ffff\ufffd",
	strings.Repeat("a", maxName):      strings.Repeat("a", maxName),
	strings.Repeat("a", maxName-1):    strings.Repeat("a", maxName-1),
	strings.Repeat("é", maxName/2):    strings.Repeat("é", maxName/2),
	strings.Repeat("😀", maxName/4):    strings.Repeat("😀", maxName/4),
	strings.Repeat("\x00", maxName):   strings.Repeat(`\u0000`, maxName),
	"x" + strings.Repeat("€", 33):     "x" + strings.Repeat("€", 33),
	`","exp":1,"x":"`:                 `\",\"exp\":1,\"x\":\"`,
	"https://user@example.org/?q=é#f": "https://user@example.org/?q=é#f",
}

func TestI1Name(t *testing.T) {
	for iss, form := range rightNames {
		s := newIssuer(t, iss, 10)
		checkRotate(t, s, 256, right(256), "k1")
		checkIssue(t, s, me, tokenOf(api.Key{Alg: 256, Kid: "k1", Key: right(256)}, madeOf(form, 0, 10)))
	}
	for _, iss := range wrongNames {
		checkNoNew(t, iss, 10, api.ErrText)
	}
}

func TestI1TTL(t *testing.T) {
	for _, ttl := range []int{1, 2, 10, maxTTL - 1, maxTTL} {
		s := newIssuer(t, "it", ttl)
		checkRotate(t, s, 256, right(256), "k1")
		checkIssue(t, s, me, tokenOf(api.Key{Alg: 256, Kid: "k1", Key: right(256)}, madeOf("it", 0, ttl)))
	}
	for _, ttl := range []int{0, -1, -10, -maxTTL, maxTTL + 1, maxInt, math.MinInt, math.MaxInt, 1 << 32} {
		checkNoNew(t, "it", ttl, api.ErrRange)
	}
}

func TestI1Order(t *testing.T) {
	for _, iss := range wrongNames {
		for _, ttl := range []int{0, -1, maxTTL + 1, math.MinInt, math.MaxInt} {
			checkNoNew(t, iss, ttl, api.ErrText)
		}
	}
}

// A new issuer has no key, and its clock stands at 0.
func TestI1Empty(t *testing.T) {
	s := newIssuer(t, "it", 10)
	checkExport(t, s, `{"keys":[]}`)
	checkNoIssue(t, s, me, api.ErrNone)
	checkNoRetire(t, s, "k0")
	checkNoRetire(t, s, "k1")
	checkTick(t, s, 0, 0)
}

func TestI1ShareNothing(t *testing.T) {
	a, b, c := newIssuer(t, "it", 10), newIssuer(t, "it", 10), newIssuer(t, "he", 20)
	checkTick(t, a, 5, 5)
	checkRotate(t, a, 256, right(256), "k1")
	checkRotate(t, a, 384, right(384), "k2")
	checkTick(t, b, 0, 0)
	checkExport(t, b, `{"keys":[]}`)
	checkNoIssue(t, b, me, api.ErrNone)
	checkRotate(t, b, 512, right(512), "k1")
	checkTick(t, c, 7, 7)
	checkRotate(t, c, 256, bytesOf(maxKey), "k1")
	checkRetire(t, a, "k1")
	checkNoRetire(t, a, "k1")
	one := api.Key{Alg: 384, Kid: "k2", Key: right(384)}
	two := api.Key{Alg: 512, Kid: "k1", Key: right(512)}
	three := api.Key{Alg: 256, Kid: "k1", Key: bytesOf(maxKey)}
	checkExport(t, a, setOf(one))
	checkExport(t, b, setOf(two))
	checkExport(t, c, setOf(three))
	checkIssue(t, a, me, tokenOf(one, madeOf("it", 5, 10)))
	checkIssue(t, b, me, tokenOf(two, madeOf("it", 0, 10)))
	checkIssue(t, c, me, tokenOf(three, madeOf("he", 7, 20)))
	// One that is made now knows nothing of them.
	checkExport(t, newIssuer(t, "it", 10), `{"keys":[]}`)
	checkTick(t, newIssuer(t, "it", 10), 0, 0)
}
