package token

import (
	"strings"

	"notary/api"
)

const maxKid = 40

// What stands in every head; the alg's name and the kid stand between.
const (
	aheadOfName = `{"alg":"`
	aheadOfKid  = `","kid":"`
	behindKid   = `","typ":"JWT"}`
)

// ways are the ways of signing.
var ways = [...]struct {
	alg  int
	name string
}{
	{256, "HS256"},
	{384, "HS384"},
	{512, "HS512"},
}

// algName tells an alg's name, or nothing if it is none.
func algName(alg int) string {
	for _, way := range ways {
		if way.alg == alg {
			return way.name
		}
	}
	return ""
}

// Kid tells whether a text is a key's name.
func Kid(s string) bool {
	if len(s) < 1 || len(s) > maxKid {
		return false
	}
	for i := range len(s) {
		if !ofKid(s[i]) {
			return false
		}
	}
	return true
}

// ofKid tells whether a byte may stand in a kid.
func ofKid(b byte) bool {
	switch {
	case b >= 'A' && b <= 'Z', b >= 'a' && b <= 'z', b >= '0' && b <= '9':
		return true
	}
	return b == '-' || b == '_'
}

// writeHead tells the head of a header whose alg and kid are some.
func writeHead(h api.Header) string {
	return aheadOfName + algName(h.Alg) + aheadOfKid + h.Kid + behindKid
}

// readHead holds a text against the heads of each way, not against what JSON lets say: a header has one head.
func readHead(text string) (api.Header, bool) {
	for _, way := range ways {
		rest, begins := strings.CutPrefix(text, aheadOfName+way.name+aheadOfKid)
		kid, ends := strings.CutSuffix(rest, behindKid)
		if begins && ends && Kid(kid) {
			return api.Header{Alg: way.alg, Kid: kid}, true
		}
	}
	return api.Header{}, false
}
