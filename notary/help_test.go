package notary_test

import (
	"crypto/hmac"
	"crypto/sha256"
	"crypto/sha512"
	"encoding/base64"
	"hash"
	"strconv"
	"strings"
	"testing"

	"notary/api"
	"notary/notary"
)

const (
	maxText   = 65536
	maxDepth  = 32
	maxKey    = 200
	maxName   = 100
	maxKeys   = 20
	maxInt    = 9007199254740991
	maxLeeway = 1000000
	maxTTL    = 1000000000
)

var algs = []int{256, 384, 512}

// noAlgs are numbers that are no alg.
var noAlgs = []int{0, 1, -1, -256, 32, 255, 257, 383, 385, 511, 513, 1024, maxInt, -maxInt}

// hashes are the library's, one for each alg.
var hashes = map[int]func() hash.Hash{256: sha256.New, 384: sha512.New384, 512: sha512.New}

// bytesOf tells n bytes of all kinds, another text for each n.
func bytesOf(n int) string {
	out := make([]byte, n)
	for i := range out {
		out[i] = byte(i*37 + n*11 + 5)
	}
	return string(out)
}

// keyOf tells a key that fits its alg, and none beside it.
func keyOf(alg int, kid string) api.Key { return api.Key{Alg: alg, Kid: kid, Key: bytesOf(alg / 8)} }

func encode(data string) string { return base64.RawURLEncoding.EncodeToString([]byte(data)) }

func headOf(alg int, kid string) string {
	return `{"alg":"HS` + strconv.Itoa(alg) + `","kid":"` + kid + `","typ":"JWT"}`
}

// seal makes a token of a head and a body, right or wrong, by the library alone.
func seal(alg int, key, head, body string) string {
	signed := encode(head) + "." + encode(body)
	h := hmac.New(hashes[alg], []byte(key))
	h.Write([]byte(signed))
	return signed + "." + encode(string(h.Sum(nil)))
}

// tokenOf tells a body that was signed by a key.
func tokenOf(k api.Key, body string) string { return seal(k.Alg, k.Key, headOf(k.Alg, k.Kid), body) }

// bodyOf tells claims of iss and for aud, which were made at nbf, and hold from then on and until exp.
func bodyOf(iss, aud string, nbf, exp int) string {
	start := strconv.Itoa(nbf)
	return `{"aud":"` + aud + `","exp":` + strconv.Itoa(exp) + `,"iat":` + start + `,"iss":"` + iss + `","nbf":` + start + `}`
}

// setOf writes keys as K1 says, by the library alone.
func setOf(l ...api.Key) string {
	var objects []string
	for _, k := range l {
		objects = append(objects, `{"alg":"HS`+strconv.Itoa(k.Alg)+`","k":"`+encode(k.Key)+`","kid":"`+k.Kid+`","kty":"oct"}`)
	}
	return `{"keys":[` + strings.Join(objects, ",") + `]}`
}

// ask writes a request; behind the op stand names and values by turns.
func ask(op string, members ...string) string {
	out := `{"op":"` + op + `"`
	for i := 0; i < len(members); i += 2 {
		out += `,"` + members[i] + `":` + members[i+1]
	}
	return out + "}"
}

func askTick(n int) string { return ask("tick", "n", strconv.Itoa(n)) }

func askRotate(alg int, key string) string {
	return ask("rotate", "alg", strconv.Itoa(alg), "key", `"`+encode(key)+`"`)
}

func askRetire(kid string) string { return ask("retire", "kid", `"`+kid+`"`) }

func askAllow(alg int, yes bool) string {
	return ask("allow", "alg", strconv.Itoa(alg), "yes", strconv.FormatBool(yes))
}

func askLoad(l ...api.Key) string { return ask("load", "set", setOf(l...)) }

func askIssue(claims string) string { return ask("issue", "claims", claims) }

func askVerify(token string) string { return ask("verify", "token", `"`+token+`"`) }

func nowIs(n int) string { return `{"now":` + strconv.Itoa(n) + `}` }

func kidIs(kid string) string { return `{"kid":"` + kid + `"}` }

func tokenIs(token string) string { return `{"token":"` + token + `"}` }

func claimsAre(body, kid string) string { return `{"claims":` + body + `,"kid":"` + kid + `"}` }

func errorIs(e api.Errno) string { return `{"error":` + strconv.Itoa(int(e)) + `}` }

func configOf(iss, aud string, ttl, leeway int) string {
	return `{"iss":"` + iss + `","aud":"` + aud + `","ttl":` + strconv.Itoa(ttl) + `,"leeway":` + strconv.Itoa(leeway) + `}`
}

func newSession(t *testing.T, config string) *notary.Session {
	t.Helper()
	s, e, at := notary.New(config)
	if s == nil || e != api.OK || at != 0 {
		t.Fatalf("New(%.500q) = %v, %d, %d, want a session, 0, 0", config, s, e, at)
	}
	return s
}

// checkNoNew takes the place from a mark that stands there; without a mark it is 0.
func checkNoNew(t *testing.T, marked string, want api.Errno) {
	t.Helper()
	config, place := marked, 0
	if ahead, behind, ok := strings.Cut(marked, "¤"); ok {
		config, place = ahead+behind, len(ahead)
	}
	if s, e, at := notary.New(config); s != nil || e != want || at != place {
		t.Errorf("New(%.500q) = %v, %d, %d, want nil, %d, %d", config, s, e, at, want, place)
	}
}

func checkDo(t *testing.T, s *notary.Session, request, want string) {
	t.Helper()
	if got := s.Do(request); got != want {
		t.Errorf("Do(%.500q) = %.500s, want %.500s", request, got, want)
	}
}

// checkNoDo holds that a request is refused, and that nothing has changed by it.
func checkNoDo(t *testing.T, s *notary.Session, request string, want api.Errno) {
	t.Helper()
	was := look(s)
	checkDo(t, s, request, errorIs(want))
	if is := look(s); is != was {
		t.Errorf("Do(%.500q) changed the session from %s to %s", request, was, is)
	}
}

// probes are keys of a door, one for each alg, by which look asks.
func probes() []api.Key {
	return []api.Key{keyOf(256, "p256"), keyOf(384, "p384"), keyOf(512, "p512")}
}

// look tells all that can be seen of a session which has the probes and no leeway: where both clocks stand, which keys it has, which alg is let by.
func look(s *notary.Session) string {
	answer := s.Do(askTick(0))
	now, _ := strconv.Atoi(strings.Trim(answer, `{}"now:`))
	out := answer + s.Do(ask("export")) + s.Do(askIssue(`{"aud":"me"}`))
	for _, k := range probes() {
		out += s.Do(askVerify(tokenOf(k, bodyOf("it", "me", now, now+1))))
	}
	return out
}

// fullSession tells a session at 7 with two keys, and the probes, of which it lets by the first and the last.
func fullSession(t *testing.T) *notary.Session {
	t.Helper()
	s := newSession(t, configOf("it", "me", 10, 0))
	checkDo(t, s, askTick(7), nowIs(7))
	checkDo(t, s, askRotate(256, bytesOf(32)), kidIs("k1"))
	checkDo(t, s, askRotate(512, bytesOf(64)), kidIs("k2"))
	checkDo(t, s, askLoad(probes()...), "{}")
	checkDo(t, s, askAllow(256, true), "{}")
	checkDo(t, s, askAllow(512, true), "{}")
	return s
}
