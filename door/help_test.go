package door_test

import (
	"crypto/hmac"
	"crypto/sha256"
	"crypto/sha512"
	"encoding/base64"
	"hash"
	"strconv"
	"strings"
	"testing"

	"notary/api"
	"notary/door"
)

const (
	maxText   = 65536
	maxKid    = 40
	maxKey    = 200
	maxName   = 100
	maxKeys   = 20
	maxInt    = 9007199254740991
	maxLeeway = 1000000
)

var algs = []int{256, 384, 512}

// noAlgs are numbers that are no alg.
var noAlgs = []int{0, 1, -1, -256, 32, 255, 257, 383, 385, 511, 513, 768, 1024, 1 << 40}

// hashes are the library's, one for each alg.
var hashes = map[int]func() hash.Hash{256: sha256.New, 384: sha512.New384, 512: sha512.New}

// bytesOf tells n bytes of all kinds, another text for each n.
func bytesOf(n int) string {
	out := make([]byte, n)
	for i := range out {
		out[i] = byte(i*37 + n*11 + 5)
	}
	return string(out)
}

// keyOf tells a key that fits its alg, and none beside it.
func keyOf(alg int, kid string) api.Key { return api.Key{Alg: alg, Kid: kid, Key: bytesOf(alg / 8)} }

func encode(data string) string { return base64.RawURLEncoding.EncodeToString([]byte(data)) }

func macOf(alg int, key, text string) string {
	h := hmac.New(hashes[alg], []byte(key))
	h.Write([]byte(text))
	return string(h.Sum(nil))
}

func headOf(alg int, kid string) string {
	return `{"alg":"HS` + strconv.Itoa(alg) + `","kid":"` + kid + `","typ":"JWT"}`
}

// seal makes a token of a head and a body, right or wrong, by the library alone.
func seal(alg int, key, head, body string) string {
	text := encode(head) + "." + encode(body)
	return text + "." + encode(macOf(alg, key, text))
}

// tokenOf tells a body that was signed by a key.
func tokenOf(k api.Key, body string) string { return seal(k.Alg, k.Key, headOf(k.Alg, k.Kid), body) }

// bodyOf tells claims of iss and for aud, which hold from nbf on and until exp.
func bodyOf(iss, aud string, nbf, exp int) string {
	return `{"aud":"` + aud + `","exp":` + strconv.Itoa(exp) + `,"iat":0,"iss":"` + iss + `","nbf":` + strconv.Itoa(nbf) + `}`
}

// always tells claims that hold from 0 on, nearly to the end of the clock.
func always() string { return bodyOf("it", "me", 0, maxInt) }

// setOf writes keys as K1 says, by the library alone.
func setOf(l ...api.Key) string {
	var objects []string
	for _, k := range l {
		objects = append(objects, `{"alg":"HS`+strconv.Itoa(k.Alg)+`","k":"`+encode(k.Key)+`","kid":"`+k.Kid+`","kty":"oct"}`)
	}
	return `{"keys":[` + strings.Join(objects, ",") + `]}`
}

func newDoor(t *testing.T, iss, aud string, leeway int) *door.Door {
	t.Helper()
	d, e := door.New(iss, aud, leeway)
	if d == nil || e != api.OK {
		t.Fatalf("New(%q, %q, %d) = %v, %d", iss, aud, leeway, d, e)
	}
	return d
}

// openDoor tells a door of it and for me that allows every alg and has these keys.
func openDoor(t *testing.T, leeway int, l ...api.Key) *door.Door {
	t.Helper()
	d := newDoor(t, "it", "me", leeway)
	for _, alg := range algs {
		checkAllow(t, d, alg, true)
	}
	checkLoad(t, d, setOf(l...))
	return d
}

func checkNoNew(t *testing.T, iss, aud string, leeway int, want api.Errno) {
	t.Helper()
	if d, e := door.New(iss, aud, leeway); d != nil || e != want {
		t.Errorf("New(%.300q, %.300q, %d) = %v, %d, want nil, %d", iss, aud, leeway, d, e, want)
	}
}

func checkTick(t *testing.T, d *door.Door, n, want int) {
	t.Helper()
	if got, e := d.Tick(n); got != want || e != api.OK {
		t.Errorf("Tick(%d) = %d, %d, want %d, 0", n, got, e, want)
	}
}

func checkNoTick(t *testing.T, d *door.Door, n int) {
	t.Helper()
	if got, e := d.Tick(n); got != 0 || e != api.ErrRange {
		t.Errorf("Tick(%d) = %d, %d, want 0, %d", n, got, e, api.ErrRange)
	}
}

func checkAllow(t *testing.T, d *door.Door, alg int, yes bool) {
	t.Helper()
	if e := d.Allow(alg, yes); e != api.OK {
		t.Errorf("Allow(%d, %t) = %d, want 0", alg, yes, e)
	}
}

func checkNoAllow(t *testing.T, d *door.Door, alg int, yes bool) {
	t.Helper()
	if e := d.Allow(alg, yes); e != api.ErrAlg {
		t.Errorf("Allow(%d, %t) = %d, want %d", alg, yes, e, api.ErrAlg)
	}
}

func checkLoad(t *testing.T, d *door.Door, set string) {
	t.Helper()
	if e, at := d.Load(set); e != api.OK || at != 0 {
		t.Errorf("Load(%.500q) = %d, %d, want 0, 0", set, e, at)
	}
}

// checkNoLoad takes the place from a mark that stands there; without a mark it is 0.
func checkNoLoad(t *testing.T, d *door.Door, marked string, want api.Errno) {
	t.Helper()
	set, place := marked, 0
	if ahead, behind, ok := strings.Cut(marked, "¤"); ok {
		set, place = ahead+behind, len(ahead)
	}
	if e, at := d.Load(set); e != want || at != place {
		t.Errorf("Load(%.500q) = %d, %d, want %d, %d", set, e, at, want, place)
	}
}

func checkVerify(t *testing.T, d *door.Door, text, kid, body string) {
	t.Helper()
	if k, s, e, at := d.Verify(text); k != kid || s != body || e != api.OK || at != 0 {
		t.Errorf("Verify(%.300q) = %q, %.80q, %d, %d, want %q, %.80q, 0, 0", text, k, s, e, at, kid, body)
	}
}

func checkNoVerify(t *testing.T, d *door.Door, text string, want api.Errno, place int) {
	t.Helper()
	if k, s, e, at := d.Verify(text); k != "" || s != "" || e != want || at != place {
		t.Errorf("Verify(%.300q) = %q, %.80q, %d, %d, want \"\", \"\", %d, %d", text, k, s, e, at, want, place)
	}
}

// checkIs verifies a token that is let by just if want is OK, and refused with place 0.
func checkIs(t *testing.T, d *door.Door, k api.Key, body string, want api.Errno) {
	t.Helper()
	if want == api.OK {
		checkVerify(t, d, tokenOf(k, body), k.Kid, body)
	} else {
		checkNoVerify(t, d, tokenOf(k, body), want, 0)
	}
}
