package token

import (
	"strings"

	"notary/api"
)

// What stands in every head; the alg's name and the kid stand between.
const (
	aheadOfName = `{"alg":"`
	aheadOfKid  = `","kid":"`
	behindKid   = `","typ":"JWT"}`
)

// writeHead tells the head of a header whose alg and kid are some.
func writeHead(h api.Header) string {
	return aheadOfName + AlgName(h.Alg) + aheadOfKid + h.Kid + behindKid
}

// readHead holds a text against the heads of each way, not against what JSON lets say: a header has one head.
func readHead(text string) (api.Header, bool) {
	for _, way := range ways {
		rest, begins := strings.CutPrefix(text, aheadOfName+way.name+aheadOfKid)
		kid, ends := strings.CutSuffix(rest, behindKid)
		if begins && ends && Kid(kid) {
			return api.Header{Alg: way.alg, Kid: kid}, true
		}
	}
	return api.Header{}, false
}
