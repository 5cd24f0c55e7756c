package keys_test

import (
	"math"
	"slices"
	"strings"
	"testing"

	"notary/api"
	"notary/json"
	"notary/keys"
)

func TestK1Form(t *testing.T) {
	want := `{"keys":[{"alg":"HS256","k":"a2tra2tra2tra2tra2tra2tra2tra2tra2tra2tra2s","kid":"a","kty":"oct"}]}`
	got, e, n := keys.Print([]api.Key{{Alg: 256, Kid: "a", Key: strings.Repeat("k", 32)}})
	if got != want || e != api.OK || n != 0 {
		t.Errorf("Print = %q, %d, %d, want %q, 0, 0", got, e, n, want)
	}
	if got, e, n := keys.Print(nil); got != `{"keys":[]}` || e != api.OK || n != 0 {
		t.Errorf("Print of no key = %q, %d, %d", got, e, n)
	}
	checkPrint(t, []api.Key{})
}

// What is printed is in its one form already, and read as the keys that it was printed of.
func TestK1Right(t *testing.T) {
	for n := range maxKeys + 1 {
		l := many(n)
		checkPrint(t, l)
		checkParse(t, setOf(l), l)
		text, _, _ := keys.Print(l)
		checkParse(t, text, l)
		if form, e, _ := json.Print(text); form != text || e != api.OK {
			t.Errorf("Print(%v) = %q, which has the form %q", l, text, form)
		}
	}
}

func TestK1Sizes(t *testing.T) {
	for _, alg := range algs {
		for n := range maxKey + 10 {
			l := []api.Key{keyOf(256, "a"), {Alg: alg, Kid: "b", Key: bytesOf(n)}}
			if n < alg/8 || n > maxKey {
				checkNoPrint(t, l, api.ErrKey, 1)
				checkNoParseAt(t, setOf(l), api.ErrKey, strings.LastIndex(setOf(l), "{"))
			} else {
				checkPrint(t, l)
				checkParse(t, setOf(l), l)
			}
		}
	}
}

func TestK1Many(t *testing.T) {
	checkNoPrint(t, many(maxKeys+1), api.ErrMany, maxKeys)
	checkNoPrint(t, many(maxKeys+2), api.ErrMany, maxKeys)
	checkNoPrint(t, many(5000), api.ErrMany, maxKeys)
	// Whatever the key is that is one too many.
	for _, k := range []api.Key{{}, {Alg: 1, Kid: "x", Key: bytesOf(32)}, keyOf(256, ""), {Alg: 256, Kid: "x"}, keyOf(256, "k0")} {
		checkNoPrint(t, append(many(maxKeys), k), api.ErrMany, maxKeys)
		checkNoPrint(t, append(many(maxKeys-1), k, k), errorOf(k), maxKeys-1)
	}
}

// errorOf tells what is wrong with a key of the ones that are wrong here, behind a key k0.
func errorOf(k api.Key) api.Errno {
	switch {
	case !slices.Contains(algs, k.Alg):
		return api.ErrAlg
	case k.Kid == "":
		return api.ErrKid
	case k.Key == "":
		return api.ErrKey
	}
	return api.ErrTwice
}

func TestK1Wrong(t *testing.T) {
	for n := range maxKeys {
		for _, alg := range []int{0, 1, -1, 255, 257, 383, 513, -256, 256 + 1<<32, math.MaxInt, math.MinInt} {
			for _, key := range []string{"", bytesOf(32), bytesOf(64)} {
				checkWrongAt(t, n, api.Key{Alg: alg, Kid: "x", Key: key}, api.ErrAlg)
			}
		}
		for _, kid := range []string{"", " ", "a b", "k.", "é", "a\"", "a\n", "\x00", strings.Repeat("a", maxKid+1)} {
			checkWrongAt(t, n, keyOf(256, kid), api.ErrKid)
		}
		checkWrongAt(t, n, api.Key{Alg: 384, Kid: "x", Key: bytesOf(47)}, api.ErrKey)
		checkWrongAt(t, n, api.Key{Alg: 512, Kid: "x", Key: bytesOf(maxKey + 1)}, api.ErrKey)
		if n > 0 {
			checkWrongAt(t, n, keyOf(512, "k0"), api.ErrTwice)
			checkWrongAt(t, n, many(n)[n-1], api.ErrTwice)
		}
	}
	checkPrint(t, []api.Key{keyOf(256, strings.Repeat("a", maxKid)), keyOf(256, "A"), keyOf(256, "a")})
}

// checkWrongAt lays a wrong key at a number, with right ones around it, and wrong ones behind.
func checkWrongAt(t *testing.T, n int, k api.Key, want api.Errno) {
	t.Helper()
	ahead := many(n)
	checkNoPrint(t, append(slices.Clone(ahead), k), want, n)
	checkNoPrint(t, append(slices.Clone(ahead), k, keyOf(256, "y"), keyOf(256, "z")), want, n)
	checkNoPrint(t, append(slices.Clone(ahead), k, api.Key{}), want, n)
	checkNoPrint(t, append(append(slices.Clone(ahead), k), many(maxKeys+1)...), want, n)
}

// Of several that are wrong with one key, the one named first.
func TestK1Order(t *testing.T) {
	checkNoPrint(t, []api.Key{{}}, api.ErrAlg, 0)
	checkNoPrint(t, []api.Key{{Kid: "a"}}, api.ErrAlg, 0)
	checkNoPrint(t, []api.Key{keyOf(256, "a"), {Alg: 1, Kid: "a"}}, api.ErrAlg, 1)
	checkNoPrint(t, []api.Key{keyOf(256, "a"), {Alg: 256, Kid: "!"}}, api.ErrKid, 1)
	checkNoPrint(t, []api.Key{keyOf(256, "a"), {Alg: 256, Kid: "a"}}, api.ErrKey, 1)
	checkNoPrint(t, []api.Key{keyOf(256, "a"), keyOf(512, "a")}, api.ErrTwice, 1)
	checkNoPrint(t, []api.Key{keyOf(256, "a"), keyOf(512, "b"), keyOf(512, "b"), keyOf(256, "a")}, api.ErrTwice, 2)
}

func TestK1NotChanged(t *testing.T) {
	l := many(maxKeys)
	keys.Print(l)
	keys.Find(l, "k3")
	if !slices.Equal(l, many(maxKeys)) {
		t.Error("the list that was handed in has changed")
	}
}

func TestK3(t *testing.T) {
	l := []api.Key{keyOf(256, "a"), {Kid: "b"}, keyOf(512, "a"), {}, keyOf(256, "é"), {Kid: "b"}, keyOf(256, "aa")}
	for kid, want := range map[string]int{"a": 0, "b": 1, "": 3, "é": 4, "aa": 6, "c": -1, "A": -1, "a ": -1, "aaa": -1, "\x00": -1} {
		if got := keys.Find(l, kid); got != want {
			t.Errorf("Find(.., %q) = %d, want %d", kid, got, want)
		}
	}
	for _, l := range [][]api.Key{nil, {}, many(maxKeys)} {
		if got := keys.Find(l, ""); got != -1 {
			t.Errorf("Find(%v, \"\") = %d, want -1", l, got)
		}
	}
	long := many(1000)
	for i, k := range long {
		if got := keys.Find(long, k.Kid); got != i {
			t.Errorf("Find(.., %q) = %d, want %d", k.Kid, got, i)
		}
	}
	if got := keys.Find(long, strings.Repeat("k", maxText+1)); got != -1 {
		t.Errorf("Find of a long kid = %d, want -1", got)
	}
}
