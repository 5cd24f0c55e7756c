package token_test

import (
	"crypto/hmac"
	"crypto/sha256"
	"crypto/sha512"
	"encoding/base64"
	"hash"
	"strconv"
	"strings"
	"testing"

	"notary/api"
	"notary/token"
)

const (
	maxText = 65536
	maxKid  = 40
	maxKey  = 200
)

// signs are all that may stand in a kid, and in a part of a token.
const signs = "ABCDEFGHIJKLMNOPQRSTUVWXYZabcdefghijklmnopqrstuvwxyz0123456789-_"

// hashes are the library's, one for each alg.
var hashes = map[int]func() hash.Hash{256: sha256.New, 384: sha512.New384, 512: sha512.New}

var algs = []int{256, 384, 512}

// keyOf tells n bytes of all kinds, another text for each n.
func keyOf(n int) string {
	out := make([]byte, n)
	for i := range out {
		out[i] = byte(i*37 + n*11 + 5)
	}
	return string(out)
}

// right tells a key that fits the alg, and none beside it.
func right(alg int) string { return keyOf(alg / 8) }

func encode(data string) string { return base64.RawURLEncoding.EncodeToString([]byte(data)) }

func macOf(alg int, key, text string) string {
	h := hmac.New(hashes[alg], []byte(key))
	h.Write([]byte(text))
	return string(h.Sum(nil))
}

func headOf(alg int, kid string) string {
	return `{"alg":"HS` + strconv.Itoa(alg) + `","kid":"` + kid + `","typ":"JWT"}`
}

// seal makes a token of a head and a body, right or wrong, by the library alone.
func seal(alg int, key, head, body string) string {
	text := encode(head) + "." + encode(body)
	return text + "." + encode(macOf(alg, key, text))
}

func checkSign(t *testing.T, h api.Header, key, claims, form string) {
	t.Helper()
	want := seal(h.Alg, key, headOf(h.Alg, h.Kid), form)
	if got, e, at := token.Sign(h, key, claims); got != want || e != api.OK || at != 0 {
		t.Errorf("Sign(%v, %.80q, %.80q) = %.300q, %d, %d, want %.300q, 0, 0", h, key, claims, got, e, at, want)
	}
}

func checkNoSign(t *testing.T, h api.Header, key, claims string, want api.Errno, place int) {
	t.Helper()
	if got, e, at := token.Sign(h, key, claims); got != "" || e != want || at != place {
		t.Errorf("Sign(%v, %.80q, %.80q) = %.300q, %d, %d, want \"\", %d, %d", h, key, claims, got, e, at, want, place)
	}
}

func checkOpen(t *testing.T, text string, h api.Header, body string) {
	t.Helper()
	if got, s, e, at := token.Open(text); got != h || s != body || e != api.OK || at != 0 {
		t.Errorf("Open(%.300q) = %v, %.80q, %d, %d, want %v, %.80q, 0, 0", text, got, s, e, at, h, body)
	}
}

func checkVerify(t *testing.T, text, key string, h api.Header, body string) {
	t.Helper()
	if got, s, e, at := token.Verify(text, key); got != h || s != body || e != api.OK || at != 0 {
		t.Errorf("Verify(%.300q, %.80q) = %v, %.80q, %d, %d, want %v, %.80q, 0, 0", text, key, got, s, e, at, h, body)
	}
}

func checkNoVerify(t *testing.T, text, key string, want api.Errno, place int) {
	t.Helper()
	if h, s, e, at := token.Verify(text, key); h != (api.Header{}) || s != "" || e != want || at != place {
		t.Errorf("Verify(%.300q, %.80q) = %v, %.80q, %d, %d, want zeros, %d, %d", text, key, h, s, e, at, want, place)
	}
}

// checkNoOpen holds both calls to one error, whatever the key: O3 tells those of O2.
func checkNoOpen(t *testing.T, text string, want api.Errno, place int) {
	t.Helper()
	if h, s, e, at := token.Open(text); h != (api.Header{}) || s != "" || e != want || at != place {
		t.Errorf("Open(%.300q) = %v, %.80q, %d, %d, want zeros, %d, %d", text, h, s, e, at, want, place)
	}
	for _, key := range []string{"", right(256), right(384), right(512), keyOf(maxKey + 1)} {
		checkNoVerify(t, text, key, want, place)
	}
}

// long tells an object in its one form, of n bytes.
func long(n int) string {
	begin, end := `{"a":"`, `"}`
	return begin + strings.Repeat("x", n-len(begin)-len(end)) + end
}
