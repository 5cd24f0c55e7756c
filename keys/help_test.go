package keys_test

import (
	"encoding/base64"
	"slices"
	"strconv"
	"strings"
	"testing"

	"notary/api"
	"notary/keys"
)

const (
	maxText = 65536
	maxKid  = 40
	maxKey  = 200
	maxKeys = 20
)

var algs = []int{256, 384, 512}

// bytesOf tells n bytes of all kinds.
func bytesOf(n int) string {
	out := make([]byte, n)
	for i := range out {
		out[i] = byte(i*37 + n*11 + 5)
	}
	return string(out)
}

// keyOf tells a key that fits its alg, and none beside it.
func keyOf(alg int, kid string) api.Key { return api.Key{Alg: alg, Kid: kid, Key: bytesOf(alg / 8)} }

// many tells n keys, of kids k0, k1 and so on.
func many(n int) []api.Key {
	var l []api.Key
	for i := range n {
		l = append(l, keyOf(algs[i%3], "k"+strconv.Itoa(i)))
	}
	return l
}

func encode(data string) string { return base64.RawURLEncoding.EncodeToString([]byte(data)) }

// objectOf writes a key as K1 says, by the library alone.
func objectOf(k api.Key) string {
	return `{"alg":"HS` + strconv.Itoa(k.Alg) + `","k":"` + encode(k.Key) + `","kid":"` + k.Kid + `","kty":"oct"}`
}

func setOf(l []api.Key) string {
	var objects []string
	for _, k := range l {
		objects = append(objects, objectOf(k))
	}
	return setWith(objects...)
}

func setWith(objects ...string) string { return `{"keys":[` + strings.Join(objects, ",") + `]}` }

func checkPrint(t *testing.T, l []api.Key) {
	t.Helper()
	want := setOf(l)
	if got, e, n := keys.Print(l); got != want || e != api.OK || n != 0 {
		t.Errorf("Print(%v) = %q, %d, %d, want %q, 0, 0", l, got, e, n, want)
	}
}

func checkNoPrint(t *testing.T, l []api.Key, want api.Errno, number int) {
	t.Helper()
	if got, e, n := keys.Print(l); got != "" || e != want || n != number {
		t.Errorf("Print(%v) = %q, %d, %d, want \"\", %d, %d", l, got, e, n, want, number)
	}
}

func checkParse(t *testing.T, text string, want []api.Key) {
	t.Helper()
	if got, e, at := keys.Parse(text); !slices.Equal(got, want) || e != api.OK || at != 0 {
		t.Errorf("Parse(%.500q) = %v, %d, %d, want %v, 0, 0", text, got, e, at, want)
	}
}

// checkNoParse takes the place from a mark that stands there.
func checkNoParse(t *testing.T, marked string, want api.Errno) {
	t.Helper()
	ahead, behind, _ := strings.Cut(marked, "¤")
	checkNoParseAt(t, ahead+behind, want, len(ahead))
}

func checkNoParseAt(t *testing.T, text string, want api.Errno, place int) {
	t.Helper()
	if got, e, at := keys.Parse(text); got != nil || e != want || at != place {
		t.Errorf("Parse(%.500q) = %v, %d, %d, want nil, %d, %d", text, got, e, at, want, place)
	}
}
