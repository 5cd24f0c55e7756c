package issuer_test

import (
	"crypto/hmac"
	"crypto/sha256"
	"crypto/sha512"
	"encoding/base64"
	"hash"
	"strconv"
	"strings"
	"testing"

	"notary/api"
	"notary/issuer"
)

const (
	maxText = 65536
	maxKey  = 200
	maxName = 100
	maxKeys = 20
	maxInt  = 9007199254740991
	maxTTL  = 1000000000
)

const me = `{"aud":"me"}`

var algs = []int{256, 384, 512}

// noAlgs are numbers that are no alg.
var noAlgs = []int{0, 1, -1, -256, 32, 255, 257, 383, 385, 511, 513, 1024, 1 << 40}

// hashes are the library's, one for each alg.
var hashes = map[int]func() hash.Hash{256: sha256.New, 384: sha512.New384, 512: sha512.New}

// bytesOf tells n bytes of all kinds, another text for each n.
func bytesOf(n int) string {
	out := make([]byte, n)
	for i := range out {
		out[i] = byte(i*37 + n*11 + 5)
	}
	return string(out)
}

// right tells a key that fits the alg, and none beside it.
func right(alg int) string { return bytesOf(alg / 8) }

func encode(data string) string { return base64.RawURLEncoding.EncodeToString([]byte(data)) }

// tokenOf signs a body by the library alone.
func tokenOf(k api.Key, body string) string {
	head := `{"alg":"HS` + strconv.Itoa(k.Alg) + `","kid":"` + k.Kid + `","typ":"JWT"}`
	signed := encode(head) + "." + encode(body)
	h := hmac.New(hashes[k.Alg], []byte(k.Key))
	h.Write([]byte(signed))
	return signed + "." + encode(string(h.Sum(nil)))
}

// setOf writes keys as K1 says, by the library alone.
func setOf(l ...api.Key) string {
	var objects []string
	for _, k := range l {
		objects = append(objects, `{"alg":"HS`+strconv.Itoa(k.Alg)+`","k":"`+encode(k.Key)+`","kid":"`+k.Kid+`","kty":"oct"}`)
	}
	return `{"keys":[` + strings.Join(objects, ",") + `]}`
}

// madeOf tells what is signed of {"aud":"me"}, for an iss that is written without escapes.
func madeOf(iss string, at, ttl int) string {
	start := strconv.Itoa(at)
	return `{"aud":"me","exp":` + strconv.Itoa(at+ttl) + `,"iat":` + start + `,"iss":"` + iss + `","nbf":` + start + `}`
}

func kid(n int) string { return "k" + strconv.Itoa(n) }

func newIssuer(t *testing.T, iss string, ttl int) *issuer.Issuer {
	t.Helper()
	s, e := issuer.New(iss, ttl)
	if s == nil || e != api.OK {
		t.Fatalf("New(%q, %d) = %v, %d", iss, ttl, s, e)
	}
	return s
}

func checkNoNew(t *testing.T, iss string, ttl int, want api.Errno) {
	t.Helper()
	if s, e := issuer.New(iss, ttl); s != nil || e != want {
		t.Errorf("New(%.300q, %d) = %v, %d, want nil, %d", iss, ttl, s, e, want)
	}
}

func checkTick(t *testing.T, s *issuer.Issuer, n, want int) {
	t.Helper()
	if got, e := s.Tick(n); got != want || e != api.OK {
		t.Errorf("Tick(%d) = %d, %d, want %d, 0", n, got, e, want)
	}
}

func checkNoTick(t *testing.T, s *issuer.Issuer, n int) {
	t.Helper()
	if got, e := s.Tick(n); got != 0 || e != api.ErrRange {
		t.Errorf("Tick(%d) = %d, %d, want 0, %d", n, got, e, api.ErrRange)
	}
}

func checkRotate(t *testing.T, s *issuer.Issuer, alg int, key, want string) {
	t.Helper()
	if got, e := s.Rotate(alg, key); got != want || e != api.OK {
		t.Errorf("Rotate(%d, %q) = %q, %d, want %q, 0", alg, key, got, e, want)
	}
}

func checkNoRotate(t *testing.T, s *issuer.Issuer, alg int, key string, want api.Errno) {
	t.Helper()
	was := s.Export()
	if got, e := s.Rotate(alg, key); got != "" || e != want {
		t.Errorf("Rotate(%d, %.300q) = %q, %d, want \"\", %d", alg, key, got, e, want)
	}
	checkExport(t, s, was)
}

func checkRetire(t *testing.T, s *issuer.Issuer, kid string) {
	t.Helper()
	if e := s.Retire(kid); e != api.OK {
		t.Errorf("Retire(%q) = %d, want 0", kid, e)
	}
}

func checkNoRetire(t *testing.T, s *issuer.Issuer, kid string) {
	t.Helper()
	was := s.Export()
	if e := s.Retire(kid); e != api.ErrNone {
		t.Errorf("Retire(%.300q) = %d, want %d", kid, e, api.ErrNone)
	}
	checkExport(t, s, was)
}

func checkExport(t *testing.T, s *issuer.Issuer, want string) {
	t.Helper()
	if got := s.Export(); got != want {
		t.Errorf("Export() = %q, want %q", got, want)
	}
}

func checkIssue(t *testing.T, s *issuer.Issuer, text, want string) {
	t.Helper()
	if got, e, at := s.Issue(text); got != want || e != api.OK || at != 0 {
		t.Errorf("Issue(%.300q) = %.300q, %d, %d, want %.300q, 0, 0", text, got, e, at, want)
	}
}

// checkNoIssue takes the place from a mark that stands there; without a mark it is 0.
func checkNoIssue(t *testing.T, s *issuer.Issuer, marked string, want api.Errno) {
	t.Helper()
	text, place := marked, 0
	if ahead, behind, ok := strings.Cut(marked, "¤"); ok {
		text, place = ahead+behind, len(ahead)
	}
	was := s.Export()
	if got, e, at := s.Issue(text); got != "" || e != want || at != place {
		t.Errorf("Issue(%.300q) = %.300q, %d, %d, want \"\", %d, %d", text, got, e, at, want, place)
	}
	checkExport(t, s, was)
}
