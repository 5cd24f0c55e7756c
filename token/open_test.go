package token_test

import (
	"strings"
	"testing"

	"notary/api"
	"notary/json"
)

// parts tells the three texts of a right token.
func parts(alg int) (string, string, string) {
	p := strings.Split(seal(alg, right(alg), headOf(alg, "k1"), `{"a":1}`), ".")
	return p[0], p[1], p[2]
}

func TestO2Right(t *testing.T) {
	for _, alg := range algs {
		for _, kid := range []string{"k", "k1", "-", "_", signs[:maxKid], signs[24:]} {
			for _, body := range []string{"{}", `{"a":1}`, `{"a":[0,"a/"],"b":1}`, `{"":{"":{}}}`, `{"x":"é.é\n"}`} {
				h := api.Header{Alg: alg, Kid: kid}
				text := seal(alg, right(alg), headOf(alg, kid), body)
				checkOpen(t, text, h, body)
				checkVerify(t, text, right(alg), h, body)
			}
		}
	}
}

// Open does not ask who signed: a third part of the right length is enough.
func TestO2AnyMac(t *testing.T) {
	for _, alg := range algs {
		head, body, _ := parts(alg)
		text := head + "." + body + "." + encode(keyOf(alg/8))
		checkOpen(t, text, api.Header{Alg: alg, Kid: "k1"}, `{"a":1}`)
		checkNoVerify(t, text, right(alg), api.ErrSign, 0)
	}
}

func TestO2Long(t *testing.T) {
	checkNoOpen(t, strings.Repeat("A", maxText+1), api.ErrLong, 0)
	checkNoOpen(t, strings.Repeat(".", maxText+1), api.ErrLong, 0)
	checkNoOpen(t, strings.Repeat("*", 200000), api.ErrLong, 0)
	checkNoOpen(t, strings.Repeat("A", maxText), api.ErrText, maxText)
	checkNoOpen(t, strings.Repeat(".", maxText), api.ErrText, 2)
}

func TestO2Dots(t *testing.T) {
	head, body, mac := parts(256)
	for _, text := range []string{"", ".", "a", "*", "a.", ".a", "*.*", "é", head, head + ".", head + "." + body, head + body + mac, "." + mac} {
		checkNoOpen(t, text, api.ErrText, len(text))
	}
	checkNoOpen(t, "...", api.ErrText, 2)
	checkNoOpen(t, "....", api.ErrText, 2)
	checkNoOpen(t, "*..*.*", api.ErrText, 4)
	checkNoOpen(t, "a.b.c.d", api.ErrText, 5)
	whole := head + "." + body + "." + mac
	checkNoOpen(t, whole+".", api.ErrText, len(whole))
	checkNoOpen(t, whole+".x", api.ErrText, len(whole))
	checkNoOpen(t, whole+"."+whole, api.ErrText, len(whole))
	checkNoOpen(t, "."+whole, api.ErrText, len(head)+len(body)+2)
	checkNoOpen(t, head+".."+body+"."+mac, api.ErrText, len(head)+len(body)+2)
}

// A part goes wrong at a byte that is no sign, at a length that none has, or at bits that are left.
func TestO2Parts(t *testing.T) {
	head, body, mac := parts(256)
	second := len(head) + 1
	third := second + len(body) + 1
	for _, wrong := range []struct {
		text  string
		place int
	}{
		{"*", 0}, {"AAAA*", 4}, {"AA=", 2}, {"AA==", 2}, {"A A", 1}, {"AA\n", 2}, {"+AAA", 0}, {"AAA/", 3}, {"\x00", 0}, {"é", 0},
		{"A", 1}, {"AAAAA", 5}, {"AB", 1}, {"AAB", 2}, {"AAAAAB", 5}, {"AAAAAAB", 6},
	} {
		checkNoOpen(t, wrong.text+"."+body+"."+mac, api.ErrText, wrong.place)
		checkNoOpen(t, head+"."+wrong.text+"."+mac, api.ErrText, second+wrong.place)
		checkNoOpen(t, head+"."+body+"."+wrong.text, api.ErrText, third+wrong.place)
		checkNoOpen(t, wrong.text+".*.*", api.ErrText, wrong.place)
		checkNoOpen(t, head+"."+wrong.text+".*", api.ErrText, second+wrong.place)
		checkNoOpen(t, ".."+wrong.text, api.ErrText, 2+wrong.place)
	}
}

func TestO2Empty(t *testing.T) {
	head, body, mac := parts(256)
	checkNoOpen(t, "..", api.ErrHead, 0)
	checkNoOpen(t, "."+body+"."+mac, api.ErrHead, 0)
	checkNoOpen(t, head+".."+mac, api.ErrBody, 0)
	checkNoOpen(t, head+"."+body+".", api.ErrSign, 0)
	checkNoOpen(t, head+"..", api.ErrBody, 0)
}

func TestO2Heads(t *testing.T) {
	for _, head := range []string{
		``, `{}`, `null`, `[]`, `x`, "\xff",
		`{"alg":"HS256","kid":"k1"}`,
		`{"alg":"HS256","typ":"JWT"}`,
		`{"kid":"k1","typ":"JWT"}`,
		`{"alg":"HS256","typ":"JWT","kid":"k1"}`,
		`{"kid":"k1","alg":"HS256","typ":"JWT"}`,
		`{"typ":"JWT","alg":"HS256","kid":"k1"}`,
		`{"alg":"HS256","cty":"a","kid":"k1","typ":"JWT"}`,
		`{"alg":"HS256","kid":"k1","typ":"JWT","x":1}`,
		`{"alg":"HS256","kid":"k1","kid":"k1","typ":"JWT"}`,
		` {"alg":"HS256","kid":"k1","typ":"JWT"}`,
		`{"alg":"HS256","kid":"k1","typ":"JWT"} `,
		`{ "alg":"HS256","kid":"k1","typ":"JWT"}`,
		`{"alg": "HS256","kid":"k1","typ":"JWT"}`,
		`{"alg":"HS256", "kid":"k1","typ":"JWT"}`,
		`{"alg":"HS256","kid":"k1","typ":"JWT"}` + "\n",
		`{"alg":"HS256","kid":"k1","typ":"JWT"}` + "\x00",
		`{"alg":"HS256","kid":"\u006b1","typ":"JWT"}`,
		`{"alg":"\u0048S256","kid":"k1","typ":"JWT"}`,
		`{"al\u0067":"HS256","kid":"k1","typ":"JWT"}`,
		`{"alg":"HS256","kid":"k1","typ":"jwt"}`,
		`{"alg":"HS256","kid":"k1","typ":"JWS"}`,
		`{"alg":"HS256","kid":"k1","typ":""}`,
		`{"alg":"HS256","kid":"k1","typ":null}`,
		`{"alg":"none","kid":"k1","typ":"JWT"}`,
		`{"alg":"","kid":"k1","typ":"JWT"}`,
		`{"alg":"hs256","kid":"k1","typ":"JWT"}`,
		`{"alg":"256","kid":"k1","typ":"JWT"}`,
		`{"alg":256,"kid":"k1","typ":"JWT"}`,
		`{"alg":"HS128","kid":"k1","typ":"JWT"}`,
		`{"alg":"HS2560","kid":"k1","typ":"JWT"}`,
		`{"alg":"HS256HS256","kid":"k1","typ":"JWT"}`,
		`{"alg":"RS256","kid":"k1","typ":"JWT"}`,
		`{"alg":"HS256","kid":"","typ":"JWT"}`,
		`{"alg":"HS256","kid":","typ":"JWT"}`,
		`{"alg":"HS256","kid":"k 1","typ":"JWT"}`,
		`{"alg":"HS256","kid":"k.1","typ":"JWT"}`,
		`{"alg":"HS256","kid":"é","typ":"JWT"}`,
		`{"alg":"HS256","kid":1,"typ":"JWT"}`,
		`{"alg":"HS256","kid":"` + signs[:maxKid+1] + `","typ":"JWT"}`,
		`{"Alg":"HS256","kid":"k1","typ":"JWT"}`,
		`{"alg":"HS256","kid":"k1","typ":"JWT"`,
		`"alg":"HS256","kid":"k1","typ":"JWT"}`,
		`{"alg":"HS256","kid":"k1","typ":"JWT"}{"alg":"HS256","kid":"k1","typ":"JWT"}`,
		`{"alg":"HS256","kid":"k1","typ":"JWT","typ":"JWT"}`,
	} {
		for _, alg := range algs {
			checkNoOpen(t, seal(alg, right(alg), head, `{"a":1}`), api.ErrHead, 0)
		}
	}
}

// Each byte of a head, left out, doubled, or another one.
func TestO2HeadBytes(t *testing.T) {
	_, body, mac := parts(384)
	kid := len(`{"alg":"HS384","kid":"`)
	head := headOf(384, "k1")
	for i := range head {
		for b := range 256 {
			text := encode(head[:i]+string([]byte{byte(b)})+head[i+1:]) + "." + body + "." + mac
			if byte(b) == head[i] {
				checkOpen(t, text, api.Header{Alg: 384, Kid: "k1"}, `{"a":1}`)
			} else if (i == kid || i == kid+1) && strings.IndexByte(signs, byte(b)) >= 0 {
				want := []byte("k1")
				want[i-kid] = byte(b)
				checkOpen(t, text, api.Header{Alg: 384, Kid: string(want)}, `{"a":1}`)
			} else {
				checkNoOpen(t, text, api.ErrHead, 0)
			}
		}
		if i != kid && i != kid+1 {
			checkNoOpen(t, encode(head[:i]+head[i+1:])+"."+body+"."+mac, api.ErrHead, 0)
			checkNoOpen(t, encode(head[:i]+head[i:i+1]+head[i:])+"."+body+"."+mac, api.ErrHead, 0)
		}
	}
}

func TestO2Bodies(t *testing.T) {
	for _, body := range []string{
		``, ` `, `{`, `}`, `x`, "\xff",
		`null`, `true`, `0`, `1`, `"{}"`, `[]`, `[{}]`, `[1]`,
		` {}`, `{} `, `{ }`, "{}\n", `{"a": 1}`, `{"a" :1}`, `{"a":1 }`, `{"a":1,}`,
		`{"b":1,"a":2}`, `{"a":1,"a":2}`, `{"a":-0}`, `{"a":01}`, `{"a":1.0}`, `{"a":1e3}`,
		`{"\u0061":1}`, `{"a":"\u0061"}`, `{"a":"\/"}`, `{"a":"\u000A"}`,
		`{"a":9007199254740992}`, `{"a":"` + "\xff" + `"}`, `{"a":"` + "\n" + `"}`, `{}{}`, `{}.`,
		`{"a":` + strings.Repeat("[", 32) + strings.Repeat("]", 32) + `}`,
	} {
		for _, alg := range algs {
			checkNoOpen(t, seal(alg, right(alg), headOf(alg, "k1"), body), api.ErrBody, 0)
		}
	}
	deep := `{"a":` + strings.Repeat("[", 31) + strings.Repeat("]", 31) + `}`
	checkOpen(t, seal(256, right(256), headOf(256, "k1"), deep), api.Header{Alg: 256, Kid: "k1"}, deep)
}

// Each byte of a body, left out, doubled, or another one: what has another form, or none, is not let by.
func TestO2BodyBytes(t *testing.T) {
	head, _, mac := parts(256)
	body := `{"a":[-1,"é\n"],"b":{}}`
	check := func(other string) {
		form, e, _ := json.Print(other)
		if e == api.OK && form == other && other[0] == '{' {
			checkOpen(t, head+"."+encode(other)+"."+mac, api.Header{Alg: 256, Kid: "k1"}, other)
		} else {
			checkNoOpen(t, head+"."+encode(other)+"."+mac, api.ErrBody, 0)
		}
	}
	for i := range len(body) {
		for b := range 256 {
			check(body[:i] + string([]byte{byte(b)}) + body[i+1:])
		}
		check(body[:i] + body[i+1:])
		check(body[:i] + body[i:i+1] + body[i:])
	}
}

func TestO2MacSizes(t *testing.T) {
	for _, alg := range algs {
		head, body, _ := parts(alg)
		for n := range 130 {
			text := head + "." + body + "." + encode(keyOf(n))
			if n == alg/8 {
				checkOpen(t, text, api.Header{Alg: alg, Kid: "k1"}, `{"a":1}`)
			} else {
				checkNoOpen(t, text, api.ErrSign, 0)
			}
		}
	}
}

// Of two that apply, the one named first.
func TestO2Order(t *testing.T) {
	head, body, mac := parts(256)
	checkNoOpen(t, head+"."+body+"."+mac+"*.", api.ErrText, len(head)+len(body)+len(mac)+3)
	checkNoOpen(t, "*."+body, api.ErrText, len(body)+2)
	checkNoOpen(t, encode("{}")+"."+encode("[]")+".*", api.ErrText, 8)
	checkNoOpen(t, encode("{}")+"."+encode("[]")+"."+encode("x"), api.ErrHead, 0)
	checkNoOpen(t, encode("{}")+"."+body+"."+encode("x"), api.ErrHead, 0)
	checkNoOpen(t, encode("{}")+"."+encode("[]")+"."+mac, api.ErrHead, 0)
	checkNoOpen(t, head+"."+encode("[]")+"."+encode("x"), api.ErrBody, 0)
	checkNoOpen(t, head+"."+encode("{")+".", api.ErrBody, 0)
}
