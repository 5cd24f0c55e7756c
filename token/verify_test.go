package token_test

import (
	"math/rand"
	"strconv"
	"strings"
	"testing"

	"notary/api"
	"notary/token"
)

func TestO3Keys(t *testing.T) {
	for _, alg := range algs {
		h := api.Header{Alg: alg, Kid: "k1"}
		for n := range maxKey + 60 {
			text := seal(alg, keyOf(n), headOf(alg, "k1"), `{"a":1}`)
			if n < alg/8 || n > maxKey {
				checkNoVerify(t, text, keyOf(n), api.ErrKey, 0)
			} else {
				checkVerify(t, text, keyOf(n), h, `{"a":1}`)
			}
		}
	}
}

func TestO3OtherKey(t *testing.T) {
	for _, alg := range algs {
		key := right(alg)
		text := seal(alg, key, headOf(alg, "k1"), `{"a":1}`)
		for i := range len(key) {
			for bit := range 8 {
				other := []byte(key)
				other[i] ^= 1 << bit
				checkNoVerify(t, text, string(other), api.ErrSign, 0)
			}
		}
		checkNoVerify(t, text, key+"x", api.ErrSign, 0)
		checkNoVerify(t, text, keyOf(maxKey), api.ErrSign, 0)
	}
}

// A mac of the right length, but of another text.
func TestO3OtherText(t *testing.T) {
	for _, alg := range algs {
		head, body := encode(headOf(alg, "k1")), encode(`{"a":1}`)
		for _, signed := range []string{
			"", head, body, head + ".", "." + body, head + body, head + "." + body + ".",
			headOf(alg, "k1") + `.{"a":1}`, headOf(alg, "k1") + `{"a":1}`,
			encode(headOf(alg, "k2")) + "." + body, head + "." + encode(`{"a":2}`),
		} {
			checkNoVerify(t, head+"."+body+"."+encode(macOf(alg, right(alg), signed)), right(alg), api.ErrSign, 0)
		}
	}
}

// A mac of another alg: of its own length, and cut or filled to the right one.
func TestO3OtherAlg(t *testing.T) {
	key := keyOf(maxKey)
	for _, alg := range algs {
		text := encode(headOf(alg, "k1")) + "." + encode("{}")
		for _, other := range algs {
			if other == alg {
				continue
			}
			mac := macOf(other, key, text)
			checkNoVerify(t, text+"."+encode(mac), key, api.ErrSign, 0)
			checkNoVerify(t, text+"."+encode((mac + mac)[:alg/8]), key, api.ErrSign, 0)
		}
	}
}

// No bit of the mac may be another.
func TestO3MacBits(t *testing.T) {
	for _, alg := range algs {
		text := encode(headOf(alg, "k1")) + "." + encode("{}")
		mac := macOf(alg, right(alg), text)
		for i := range len(mac) {
			for bit := range 8 {
				other := []byte(mac)
				other[i] ^= 1 << bit
				checkNoVerify(t, text+"."+encode(string(other)), right(alg), api.ErrSign, 0)
			}
		}
	}
}

func TestO3Order(t *testing.T) {
	text := seal(256, keyOf(200), headOf(256, "k1"), `{"a":1}`)
	checkNoVerify(t, text, "", api.ErrKey, 0)
	checkNoVerify(t, text, keyOf(31), api.ErrKey, 0)
	checkNoVerify(t, text, keyOf(201), api.ErrKey, 0)
	checkNoVerify(t, text, keyOf(199), api.ErrSign, 0)
	// The key is asked of the token's alg, not of any.
	checkNoVerify(t, seal(512, keyOf(64), headOf(512, "k1"), "{}"), keyOf(63), api.ErrKey, 0)
	checkNoVerify(t, seal(384, keyOf(48), headOf(384, "k1"), "{}"), keyOf(47), api.ErrKey, 0)
	// Third parts of another length are told by Open, ahead of the key.
	checkNoVerify(t, text[:len(text)-3]+"A", "", api.ErrText, len(text)-2)
	checkNoVerify(t, text[:strings.LastIndexByte(text, '.')+1], "", api.ErrSign, 0)
}

// A token has one text alone: with one byte another, left out or put in, no token stands.
func TestO3OneText(t *testing.T) {
	for _, alg := range algs {
		key := right(alg)
		text := seal(alg, key, headOf(alg, "k1"), `{"a":1}`)
		for i := range len(text) {
			for b := range 256 {
				one := string([]byte{byte(b)})
				if one != text[i:i+1] {
					checkRefused(t, text[:i]+one+text[i+1:], key)
				}
				checkRefused(t, text[:i]+one+text[i:], key)
			}
			checkRefused(t, text[:i]+text[i+1:], key)
			checkRefused(t, text[:i], key)
		}
	}
}

func checkRefused(t *testing.T, text, key string) {
	t.Helper()
	if h, s, e, _ := token.Verify(text, key); h != (api.Header{}) || s != "" || e == api.OK {
		t.Errorf("Verify(%q) = %v, %q, %d, want zeros and an error", text, h, s, e)
	}
}

// What Sign makes, Verify tells again: the header, and the claims' one form.
func TestO3WhatSignMakes(t *testing.T) {
	random := rand.New(rand.NewSource(4))
	for range 2000 {
		h := api.Header{Alg: algs[random.Intn(3)]}
		for range 1 + random.Intn(maxKid) {
			h.Kid += string(signs[random.Intn(len(signs))])
		}
		least := h.Alg / 8
		key := keyOf(least + random.Intn(maxKey-least+1))
		a, b := strconv.Itoa(random.Intn(1000)-500), strings.Repeat("x", random.Intn(50))
		form := `{"a":` + a + `,"b":"` + b + `"}`
		claims := ` { "b" : "` + b + `" , "\u0061" : ` + a + ` } `
		checkSign(t, h, key, claims, form)
		text, _, _ := token.Sign(h, key, claims)
		checkOpen(t, text, h, form)
		checkVerify(t, text, key, h, form)
		again, _, _ := token.Sign(h, key, form)
		if again != text {
			t.Errorf("Sign of the form %q = %q, want %q", form, again, text)
		}
	}
}
