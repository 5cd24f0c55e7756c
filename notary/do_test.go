package notary_test

import (
	"maps"
	"slices"
	"sort"
	"strconv"
	"strings"
	"testing"

	"notary/api"
	"notary/json"
	"notary/notary"
)

// form is one of the things that can be asked: its members, each of a right value, and their kinds.
type form struct {
	op      string
	members map[string]string
	kinds   map[string]int
}

// forms tells all eight; every one of them is right for a full session.
func forms() []form {
	body := bodyOf("it", "me", 7, 8)
	return []form{
		{"tick", map[string]string{"n": "3"}, map[string]int{"n": json.KindInteger}},
		{"rotate", map[string]string{"alg": "384", "key": `"` + encode(bytesOf(48)) + `"`}, map[string]int{"alg": json.KindInteger, "key": json.KindString}},
		{"retire", map[string]string{"kid": `"k1"`}, map[string]int{"kid": json.KindString}},
		{"export", nil, nil},
		{"allow", map[string]string{"alg": "384", "yes": "true"}, map[string]int{"alg": json.KindInteger, "yes": json.KindTruth}},
		{"load", map[string]string{"set": setOf(keyOf(256, "a"))}, map[string]int{"set": json.KindObject}},
		{"issue", map[string]string{"claims": `{"aud":"me"}`}, map[string]int{"claims": json.KindObject}},
		{"verify", map[string]string{"token": `"` + tokenOf(probes()[0], body) + `"`}, map[string]int{"token": json.KindString}},
	}
}

// answers tells what a full session answers to each of the forms.
func answers() map[string]string {
	k2 := api.Key{Alg: 512, Kid: "k2", Key: bytesOf(64)}
	return map[string]string{
		"tick": nowIs(10), "rotate": kidIs("k3"), "retire": "{}", "export": setOf(keyOf(256, "k1"), k2), "allow": "{}", "load": "{}",
		"issue": tokenIs(tokenOf(k2, bodyOf("it", "me", 7, 17))), "verify": claimsAre(bodyOf("it", "me", 7, 8), "p256"),
	}
}

// with tells the form's members and op, one of them of another value; without a value it lacks.
func (f form) with(name, value string) map[string]string {
	out := map[string]string{"op": `"` + f.op + `"`}
	for name, value := range f.members {
		out[name] = value
	}
	out[name] = value
	if value == "" {
		delete(out, name)
	}
	return out
}

// names tells op and the names of the form's members.
func (f form) names() []string {
	return append([]string{"op"}, slices.Sorted(maps.Keys(f.members))...)
}

func TestN2Example(t *testing.T) {
	s := newSession(t, right)
	checkDo(t, s, `{"op":"tick","n":5}`, `{"now":5}`)
	checkDo(t, s, `{"op":"export"}`, `{"keys":[]}`)
	checkDo(t, s, `{"op":"issue","claims":{"aud":"me"}}`, `{"error":7}`)
}

// Every order of the members, with blanks between them and with escapes within.
func TestN2AnyOrder(t *testing.T) {
	blanks := strings.NewReplacer(`":`, "\" :\t", `,"`, "\r\n, \"", "{", " \n{ ", "}", " } ")
	escapes := strings.NewReplacer(`"o`, `"\u006f`, `"n"`, `"\u006E"`, `"t`, `"\u0074`, `"a`, `"\u0061`, `"k`, `"\u006b`, "e", `\u0065`, "true", "true")
	for _, f := range forms() {
		for _, order := range orders(append(f.names(), "none")) {
			request := objectOf(order, f.with("none", ""))
			for _, text := range []string{request, blanks.Replace(request), escapes.Replace(request), escapes.Replace(blanks.Replace(request))} {
				checkDo(t, fullSession(t), text, answers()[f.op])
			}
		}
	}
}

func TestN2NotJSON(t *testing.T) {
	s := fullSession(t)
	for _, f := range forms() {
		request := objectOf(f.names(), f.with("none", ""))
		for text, want := range map[string]api.Errno{
			request[:len(request)-1]:                                       api.ErrText,
			request + "}":                                                  api.ErrText,
			request[:len(request)-1] + ",}":                                api.ErrText,
			request[:len(request)-1] + `,"op":"export"}`:                   api.ErrTwice,
			request[:len(request)-1] + `,"x":9007199254740992}`:            api.ErrRange,
			request[:len(request)-1] + `,"x":` + strings.Repeat("[", 32):   api.ErrDeep,
			request + strings.Repeat(" ", maxText+1-len(request)):          api.ErrLong,
			`{"op":1,"x":` + strings.Repeat("[", 31) + "\x00":              api.ErrText,
			`{"op":"` + f.op + `","n":-9007199254740992}`:                  api.ErrRange,
			"[" + request + "," + request:                                  api.ErrText,
			strings.Replace(request, `"op"`, `"op":1,"\u006fp"`, 1):        api.ErrTwice,
			strings.Replace(request, `"`+f.op, `"\ud800`+f.op, 1):          api.ErrText,
			strings.Replace(request, `"`+f.op, "\"\xc3\x28"+f.op, 1) + "}": api.ErrText,
		} {
			checkNoDo(t, s, text, want)
		}
		checkDo(t, fullSession(t), request+strings.Repeat(" ", maxText-len(request)), answers()[f.op])
	}
	checkNoDo(t, s, "", api.ErrText)
	checkNoDo(t, s, "{", api.ErrText)
}

func TestN2NoObject(t *testing.T) {
	s := fullSession(t)
	for _, text := range []string{"null", "true", "false", "0", "-5", `""`, `"export"`, `"op"`, "[]", `["op","export"]`, `[{"op":"export"}]`} {
		checkNoDo(t, s, text, api.ErrKind)
		checkNoDo(t, s, " \n"+text+" ", api.ErrKind)
	}
}

func TestN2NoOp(t *testing.T) {
	s := fullSession(t)
	checkNoDo(t, s, "{}", api.ErrKind)
	for _, f := range forms() {
		checkNoDo(t, s, objectOf(f.names(), f.with("op", "")), api.ErrKind)
		for _, value := range others(json.KindString) {
			checkNoDo(t, s, objectOf(f.names(), f.with("op", value)), api.ErrKind)
		}
		for _, op := range []string{"", "x", "op", f.op + " ", " " + f.op, f.op[1:], f.op[:3], f.op + f.op, strings.ToUpper(f.op), strings.ToUpper(f.op[:1]) + f.op[1:], f.op + `\u0000`, "now", "new", "error", "keys", "close"} {
			checkNoDo(t, s, objectOf(f.names(), f.with("op", `"`+op+`"`)), api.ErrKind)
		}
		for _, name := range []string{"Op", "OP", "op ", "o", "opp", `op\u0000`, ""} {
			checkNoDo(t, s, strings.Replace(objectOf(f.names(), f.with("none", "")), `"op"`, `"`+name+`"`, 1), api.ErrKind)
		}
	}
}

func TestN2Members(t *testing.T) {
	s := fullSession(t)
	for _, f := range forms() {
		for _, name := range []string{"x", "", "Op", "now", "error", "n", "alg", "key", "kid", "yes", "set", "claims", "token"} {
			if _, own := f.members[name]; own {
				continue
			}
			for _, value := range append(others(json.KindNull), "null") {
				checkNoDo(t, s, objectOf(append(f.names(), name), f.with(name, value)), api.ErrKind)
				checkNoDo(t, s, objectOf(append([]string{name}, f.names()...), f.with(name, value)), api.ErrKind)
			}
			for lacking := range f.members { // as many as there should be, but another one
				members := f.with(name, "1")
				delete(members, lacking)
				checkNoDo(t, s, objectOf(append(f.names(), name), members), api.ErrKind)
			}
		}
		for name, kind := range f.kinds {
			checkNoDo(t, s, objectOf(f.names(), f.with(name, "")), api.ErrKind)
			for _, value := range others(kind) {
				checkNoDo(t, s, objectOf(f.names(), f.with(name, value)), api.ErrKind)
			}
		}
	}
}

func TestN2Tick(t *testing.T) {
	s := fullSession(t)
	k := probes()[0]
	for _, n := range []int{-1, -7, -8, -maxInt} {
		checkNoDo(t, s, askTick(n), api.ErrRange)
	}
	now := 7
	for _, n := range []int{0, 1, 5, 0, 1000, maxInt - 2000} {
		now += n
		checkDo(t, s, askTick(n), nowIs(now))
		body := bodyOf("it", "me", now, now+1) // holds at no other time
		checkDo(t, s, askVerify(tokenOf(k, body)), claimsAre(body, k.Kid))
		checkDo(t, s, askIssue(`{"aud":"me"}`), tokenIs(tokenOf(api.Key{Alg: 512, Kid: "k2", Key: bytesOf(64)}, bodyOf("it", "me", now, now+10))))
	}
	checkDo(t, s, ask("tick", "n", "-0"), nowIs(now))
	for range 3 {
		checkDo(t, s, askTick(maxInt), nowIs(maxInt))
		checkDo(t, s, askVerify(tokenOf(k, bodyOf("it", "me", maxInt, maxInt))), errorIs(api.ErrLate))
		checkNoDo(t, s, askTick(-1), api.ErrRange)
		checkNoDo(t, s, askIssue(`{"aud":"me"}`), api.ErrRange)
	}
}

func TestN2Rotate(t *testing.T) {
	s := newSession(t, configOf("it", "me", 10, 0))
	var l []api.Key
	for n := range maxKeys {
		k := api.Key{Alg: algs[n%3], Kid: "k" + strconv.Itoa(n+1), Key: bytesOf(64 + n*7)}
		if n < 6 { // the shortest keys, and the longest
			k.Key = bytesOf([]int{k.Alg / 8, maxKey}[n/3])
		}
		l = append(l, k)
		checkDo(t, s, askRotate(k.Alg, k.Key), kidIs(k.Kid))
		checkDo(t, s, ask("export"), setOf(l...))
		checkDo(t, s, askIssue(`{"aud":"me"}`), tokenIs(tokenOf(k, bodyOf("it", "me", 0, 10))))
	}
	checkNoDo(t, s, askRotate(256, bytesOf(32)), api.ErrMany)
	checkNoDo(t, s, askRotate(257, bytesOf(32)), api.ErrAlg)
	checkNoDo(t, s, askRotate(256, bytesOf(31)), api.ErrKey)
	checkNoDo(t, s, ask("rotate", "alg", "256", "key", `"="`), api.ErrText)
	checkDo(t, s, askRetire("k20"), "{}")
	checkDo(t, s, askRotate(256, bytesOf(32)), kidIs("k21"))
	checkNoDo(t, s, askRotate(256, bytesOf(32)), api.ErrMany)
}

func TestN2NoRotate(t *testing.T) {
	s := fullSession(t)
	for _, alg := range algs {
		for _, n := range []int{0, 1, alg/8 - 1, maxKey + 1, 1000} {
			checkNoDo(t, s, askRotate(alg, bytesOf(n)), api.ErrKey)
		}
	}
	for _, alg := range noAlgs {
		checkNoDo(t, s, askRotate(alg, bytesOf(64)), api.ErrAlg)
		checkNoDo(t, s, askRotate(alg, ""), api.ErrAlg)
	}
	good := encode(bytesOf(34)) // of its last sign four bits belong to no byte
	for _, key := range []string{"A", "=", "AB", "AAB", "AAAAA", good + "=", good + "AAA", good[1:], good + " ", " " + good, good[:20] + "+" + good[21:], good[:20] + "/" + good[21:], good[:20] + "." + good[21:], "é", `\n`, `\u0000`, good[:len(good)-1] + "_"} {
		for _, alg := range []string{"256", "1", "0", "-256"} {
			checkNoDo(t, s, ask("rotate", "alg", alg, "key", `"`+key+`"`), api.ErrText)
		}
	}
	checkDo(t, s, askRotate(384, bytesOf(48)), kidIs("k3"))
}

func TestN2Retire(t *testing.T) {
	s := fullSession(t)
	k1, k2 := keyOf(256, "k1"), keyOf(512, "k2")
	for _, kid := range []string{"", "k", "k0", "k3", "K1", "k1 ", "k01", "p256", "é", `\n`} {
		checkNoDo(t, s, askRetire(kid), api.ErrNone)
	}
	checkDo(t, s, ask("export"), setOf(k1, k2))
	checkDo(t, s, askRetire("k2"), "{}")
	checkNoDo(t, s, askRetire("k2"), api.ErrNone)
	checkDo(t, s, ask("export"), setOf(k1))
	checkDo(t, s, askIssue(`{"aud":"me"}`), tokenIs(tokenOf(k1, bodyOf("it", "me", 7, 17))))
	checkDo(t, s, ask("retire", "kid", `"\u006b1"`), "{}")
	checkDo(t, s, ask("export"), `{"keys":[]}`)
	checkNoDo(t, s, askIssue(`{"aud":"me"}`), api.ErrNone)
	checkDo(t, s, askRotate(256, k1.Key), kidIs("k3"))
}

func TestN2Allow(t *testing.T) {
	s := fullSession(t)
	allowed := map[int]bool{256: true, 512: true}
	for n := range 40 {
		alg, yes := algs[n*n%3], n%5 < 2
		checkDo(t, s, askAllow(alg, yes), "{}")
		allowed[alg] = yes
		for _, k := range probes() {
			body := bodyOf("it", "me", 7, 8)
			want := errorIs(api.ErrAlg)
			if allowed[k.Alg] {
				want = claimsAre(body, k.Kid)
			}
			checkDo(t, s, askVerify(tokenOf(k, body)), want)
		}
		checkNoDo(t, s, askAllow(noAlgs[n%len(noAlgs)], n%2 == 0), api.ErrAlg)
	}
}

func TestN2Load(t *testing.T) {
	s := fullSession(t)
	a, body := keyOf(512, "a"), bodyOf("it", "me", 7, 8)
	checkDo(t, s, askVerify(tokenOf(a, body)), errorIs(api.ErrNone))
	checkDo(t, s, askLoad(a), "{}")
	checkDo(t, s, askVerify(tokenOf(a, body)), claimsAre(body, "a"))
	checkDo(t, s, askVerify(tokenOf(probes()[0], body)), errorIs(api.ErrNone))
	checkDo(t, s, ask("load", "set", ` { "keys" : [ { "kty":"\u006fct", "kid":"b", "k":"`+encode(a.Key)+`", "alg":"HS512" } ] } `), "{}")
	checkDo(t, s, askVerify(tokenOf(a, body)), errorIs(api.ErrNone))
	b := api.Key{Alg: 512, Kid: "b", Key: a.Key}
	checkDo(t, s, askVerify(tokenOf(b, body)), claimsAre(body, "b"))
	checkDo(t, s, ask("load", "set", s.Do(ask("export"))), "{}")
	k2 := keyOf(512, "k2")
	checkDo(t, s, askVerify(tokenOf(k2, body)), claimsAre(body, "k2"))
	checkDo(t, s, askLoad(), "{}")
	checkDo(t, s, askVerify(tokenOf(k2, body)), errorIs(api.ErrNone))
}

func TestN2NoLoad(t *testing.T) {
	s := fullSession(t)
	one := `{"alg":"HS256","k":"` + encode(bytesOf(32)) + `","kid":"a","kty":"oct"}`
	for set, want := range map[string]api.Errno{
		"{}":                                 api.ErrNone,
		`{"keys":[{}]}`:                      api.ErrNone,
		`{"keys":{}}`:                        api.ErrKind,
		`{"x":[]}`:                           api.ErrKind,
		`{"keys":[1]}`:                       api.ErrKind,
		`{"keys":[` + one + `],"x":1}`:       api.ErrKind,
		`{"keys":[` + one + "," + one + `]}`: api.ErrTwice,
		`{"keys":[` + strings.Replace(one, "HS256", "HS512", 1) + `]}`:                   api.ErrKey,
		`{"keys":[` + strings.Replace(one, "HS256", "HS255", 1) + `]}`:                   api.ErrAlg,
		`{"keys":[` + strings.Replace(one, `"a"`, `"a b"`, 1) + `]}`:                     api.ErrKid,
		`{"keys":[` + strings.Replace(one, "oct", "RSA", 1) + `]}`:                       api.ErrText,
		`{"keys":[` + strings.Replace(one, `"k":"`, `"k":"=`, 1) + `]}`:                  api.ErrText,
		`{"keys":[` + strings.TrimSuffix(strings.Repeat(one+",", maxKeys), ",") + `]}`:   api.ErrTwice,
		`{"keys":[` + strings.TrimSuffix(strings.Repeat(one+",", maxKeys+1), ",") + `]}`: api.ErrMany,
		`{"keys":[` + strings.Replace(one, `"kid":"a",`, "", 1) + `]}`:                   api.ErrNone,
	} {
		checkNoDo(t, s, ask("load", "set", set), want)
	}
}

// The first node that is wrong is looked for in the set's one form: there the names rise.
func TestN2LoadOneForm(t *testing.T) {
	s := fullSession(t)
	for set, want := range map[string]api.Errno{
		`{"x":1,"keys":[{"alg":"y"}]}`:                 api.ErrAlg,
		`{"a":1,"keys":[{"alg":"y"}]}`:                 api.ErrKind,
		`{"keys":[{"alg":"y"}],"a":1}`:                 api.ErrKind,
		`{"keys":[{"kty":"x","alg":"y"}]}`:             api.ErrAlg,
		`{"keys":[{"kty":"x","kid":"","k":"AA"}]}`:     api.ErrKid,
		`{"keys":[{"kid":"","k":"="}]}`:                api.ErrText,
		`{"keys":[{"x":1,"kid":""}]}`:                  api.ErrKid,
		`{"keys":[{"kty":1,"alg":"HS256","kid":" "}]}`: api.ErrKid,
	} {
		checkNoDo(t, s, ask("load", "set", set), want)
	}
}

func TestN2Issue(t *testing.T) {
	s := fullSession(t)
	k := keyOf(512, "k2")
	for claims, body := range map[string]string{
		`{"aud":"me"}`: `{"aud":"me","exp":17,"iat":7,"iss":"it","nbf":7}`,
		` { "b" : [1, -0] , "aud" : "\u006de" } `:                   `{"aud":"me","b":[1,0],"exp":17,"iat":7,"iss":"it","nbf":7}`,
		`{"z":{"d":1,"c":2},"aud":["you","me"],"sub":"\u00e9\n\/"}`: `{"aud":["you","me"],"exp":17,"iat":7,"iss":"it","nbf":7,"sub":"é\n/","z":{"c":2,"d":1}}`,
	} {
		checkDo(t, s, askIssue(claims), tokenIs(tokenOf(k, body)))
	}
}

func TestN2NoIssue(t *testing.T) {
	full, empty := fullSession(t), newSession(t, configOf("it", "me", 10, 0))
	for claims, want := range map[string]api.Errno{
		"{}":                      api.ErrNone,
		`{"x":1}`:                 api.ErrNone,
		`{"aud":1}`:               api.ErrKind,
		`{"aud":[]}`:              api.ErrKind,
		`{"aud":["me",1]}`:        api.ErrKind,
		`{"aud":"me","iss":"it"}`: api.ErrTwice,
		`{"aud":"me","iat":1}`:    api.ErrTwice,
		`{"aud":"me","nbf":1}`:    api.ErrTwice,
		`{"aud":"me","exp":null}`: api.ErrTwice,
		`{"iss":1,"aud":1}`:       api.ErrKind, // in the one form aud is ahead
		`{"exp":1,"aud":"me"}`:    api.ErrTwice,
	} {
		checkNoDo(t, full, askIssue(claims), want)
		checkNoDo(t, empty, askIssue(claims), api.ErrNone)
	}
}

// deep tells an object that is n deep.
func deep(n int) string {
	return `{"aud":"me","x":` + strings.Repeat("[", n-1) + strings.Repeat("]", n-1) + "}"
}

func TestN2IssueDeep(t *testing.T) {
	s := fullSession(t)
	body := strings.Replace(deep(maxDepth-1), `,"x"`, `,"exp":17,"iat":7,"iss":"it","nbf":7,"x"`, 1)
	checkDo(t, s, askIssue(deep(maxDepth-1)), tokenIs(tokenOf(keyOf(512, "k2"), body)))
	checkNoDo(t, s, askIssue(deep(maxDepth)), api.ErrDeep)
}

// A token is issued up to the bound of a token; from there on its claims may be as long as a request lets them be.
func TestN2IssueLong(t *testing.T) {
	s := fullSession(t)
	tokenWith := func(n int) string {
		body := strings.Replace(bodyOf("it", "me", 7, 17), "}", `,"x":"`+strings.Repeat("x", n)+`"}`, 1)
		return tokenOf(keyOf(512, "k2"), body)
	}
	claimsWith := func(n int) string { return `{"aud":"me","x":"` + strings.Repeat("x", n) + `"}` }
	first := sort.Search(maxText, func(n int) bool { return len(tokenWith(n)) > maxText })
	for n := first - 5; n < first; n++ {
		checkDo(t, s, askIssue(claimsWith(n)), tokenIs(tokenWith(n)))
	}
	for n := first; n < first+5; n++ {
		checkNoDo(t, s, askIssue(claimsWith(n)), api.ErrLong)
	}
	last := maxText - len(askIssue(claimsWith(0)))
	for n := last - 80; n < last+5; n++ {
		checkNoDo(t, s, askIssue(claimsWith(n)), api.ErrLong)
	}
}

func TestN2Verify(t *testing.T) {
	s := fullSession(t)
	k := probes()[2]
	for _, body := range []string{
		bodyOf("it", "me", 7, 8), bodyOf("it", "me", 0, maxInt),
		`{"aud":["you","me"],"exp":8,"iat":900,"iss":"it","nbf":7}`,
		`{"aud":"me","b":[1,0,-1,null,true,{}],"exp":8,"iat":0,"iss":"it","nbf":0,"z":{"c":2,"d":1}}`,
		`{"":"\"\\\b\f\n\r\t\u0000\u001f/é😀","aud":"me","exp":8,"iat":0,"iss":"it","nbf":0,"😀":1,"` + "\ue000" + `":2}`,
		`{"aud":"me","claims":{"aud":"x"},"error":5,"exp":8,"iat":0,"iss":"it","kid":"other","nbf":0,"op":"tick"}`,
		`{"aud":"me","exp":8,"iat":0,"iss":"it","nbf":0,"x":` + strings.Repeat("[", maxDepth-1) + strings.Repeat("]", maxDepth-1) + `}`,
		`{"aud":"me","exp":8,"iat":0,"iss":"it","nbf":0,"x":"` + strings.Repeat("y", 48700) + `"}`,
	} {
		checkDo(t, s, askVerify(tokenOf(k, body)), claimsAre(body, "p512"))
	}
	for _, kid := range []string{"-", "_", "p", "K9", strings.Repeat("k", 40)} {
		k := keyOf(256, kid)
		checkDo(t, s, askLoad(k), "{}")
		checkDo(t, s, askVerify(tokenOf(k, bodyOf("it", "me", 7, 8))), claimsAre(bodyOf("it", "me", 7, 8), kid))
	}
}

func TestN2NoVerify(t *testing.T) {
	s := fullSession(t)
	k, shut, body := probes()[0], probes()[1], bodyOf("it", "me", 7, 8)
	good, always := tokenOf(k, body), bodyOf("it", "me", 0, maxInt)
	other := api.Key{Alg: 256, Kid: "p256", Key: bytesOf(33)}
	for _, c := range []struct {
		token string
		want  api.Errno
	}{
		{"", api.ErrText}, {"x", api.ErrText}, {"..", api.ErrHead}, {good + ".", api.ErrText}, {good + "=", api.ErrText}, {" " + good, api.ErrText}, {good[1:], api.ErrText},
		{seal(256, k.Key, headOf(257, "p256"), body), api.ErrHead}, {seal(256, k.Key, headOf(256, ""), body), api.ErrHead}, {seal(256, k.Key, `{"kid":"p256","alg":"HS256","typ":"JWT"}`, body), api.ErrHead},
		{tokenOf(k, " "+body), api.ErrBody}, {tokenOf(k, "[]"), api.ErrBody}, {tokenOf(k, `{"b":1,"a":2}`), api.ErrBody}, {tokenOf(k, ""), api.ErrBody},
		{good[:strings.LastIndex(good, ".")+1], api.ErrSign}, {good[:len(good)-4], api.ErrText}, {good[:len(good)-3], api.ErrSign},
		{tokenOf(keyOf(256, "k1"), body), api.ErrNone}, {tokenOf(keyOf(256, "P256"), body), api.ErrNone},
		{tokenOf(shut, body), api.ErrAlg}, {seal(512, bytesOf(64), headOf(512, "p256"), body), api.ErrAlg},
		{tokenOf(other, body), api.ErrSign}, {strings.Replace(good, encode(body), encode(always), 1), api.ErrSign},
		{tokenOf(k, "{}"), api.ErrNone}, {tokenOf(k, strings.Replace(body, `"me"`, "1", 1)), api.ErrKind}, {tokenOf(k, strings.Replace(body, `"exp":8`, `"exp":-8`, 1)), api.ErrRange},
		{tokenOf(k, bodyOf("he", "me", 7, 8)), api.ErrIss}, {tokenOf(k, bodyOf("it", "you", 7, 8)), api.ErrAud},
		{tokenOf(k, bodyOf("it", "me", 8, 9)), api.ErrEarly}, {tokenOf(k, bodyOf("it", "me", 6, 7)), api.ErrLate},
	} {
		checkNoDo(t, s, askVerify(c.token), c.want)
	}
	checkDo(t, s, askVerify(good), claimsAre(body, "p256"))
}

// A request that is refused takes nothing with it, even where a part of it is right.
func TestN2Order(t *testing.T) {
	s := fullSession(t)
	checkNoDo(t, s, `{"op":"tick","n":-1,"x":1}`, api.ErrKind)
	checkNoDo(t, s, `{"op":"rotate","alg":1,"key":"="}`, api.ErrText)
	checkNoDo(t, s, `{"op":"rotate","alg":1,"key":"=","x":1}`, api.ErrKind)
	checkNoDo(t, s, `{"op":"rotate","alg":"1","key":"="}`, api.ErrKind)
	checkNoDo(t, s, `{"op":"rotate","alg":1,"key":"="`, api.ErrText)
	checkNoDo(t, s, `{"op":"rotate","alg":1,"key":"AAAA"}`, api.ErrAlg)
	checkNoDo(t, s, `{"op":"x","n":9007199254740992}`, api.ErrRange)
	checkNoDo(t, s, `{"op":"x","op":"y"}`, api.ErrTwice)
	checkNoDo(t, s, `{"op":"load","set":{"keys":[],"keys":[]}}`, api.ErrTwice)
	checkNoDo(t, s, `{"op":"load","set":{"keys":[]},"n":1}`, api.ErrKind)
	checkNoDo(t, s, `{"op":"allow","alg":384,"yes":1}`, api.ErrKind)
	checkNoDo(t, s, `{"op":"allow","alg":1,"yes":1}`, api.ErrKind)
	checkNoDo(t, s, `{"op":"retire","kid":"k1","kids":[]}`, api.ErrKind)
	checkNoDo(t, s, `{"op":"tick","n":5} `+"\x00", api.ErrText)
}

// A whole history: from the first key until the token holds no more, and the key is gone.
func TestN2History(t *testing.T) {
	s := newSession(t, right)
	k := keyOf(256, "k1")
	do := func(request, want string) { t.Helper(); checkDo(t, s, request, want) }
	do(askRotate(256, k.Key), kidIs("k1"))
	do(ask("export"), setOf(k))
	do(ask("load", "set", s.Do(ask("export"))), "{}")
	do(askAllow(256, true), "{}")
	do(askTick(3), nowIs(3))
	body := bodyOf("it", "me", 3, 13)
	token := tokenOf(k, body)
	do(askIssue(`{"aud":"me"}`), tokenIs(token))
	for now := 4; now < 15; now++ { // 13, and 2 of leeway
		do(askVerify(token), claimsAre(body, "k1"))
		do(askTick(1), nowIs(now))
	}
	do(askVerify(token), claimsAre(body, "k1"))
	do(askTick(1), nowIs(15))
	do(askVerify(token), errorIs(api.ErrLate))
	do(askRetire("k1"), "{}")
	do(askIssue(`{"aud":"me"}`), errorIs(api.ErrNone))
	do(ask("export"), `{"keys":[]}`)
	do(askVerify(token), errorIs(api.ErrLate)) // the door has its keys still
	do(askLoad(), "{}")
	do(askVerify(token), errorIs(api.ErrNone))
	do(askRotate(384, bytesOf(48)), kidIs("k2"))
	next := api.Key{Alg: 384, Kid: "k2", Key: bytesOf(48)}
	body = bodyOf("it", "me", 15, 25)
	do(askIssue(`{"aud":"me"}`), tokenIs(tokenOf(next, body)))
	do(askLoad(k, next), "{}")
	do(askVerify(tokenOf(next, body)), errorIs(api.ErrAlg))
	do(askAllow(384, true), "{}")
	do(askVerify(tokenOf(next, body)), claimsAre(body, "k2"))
	do(askAllow(384, false), "{}")
	do(askVerify(tokenOf(next, body)), errorIs(api.ErrAlg))
}

// An answer hangs on the calls ahead of it alone: the same history twice tells the same.
func TestN2Same(t *testing.T) {
	tell := func(s *notary.Session) string {
		out := ""
		for range 3 {
			for _, f := range forms() {
				out += s.Do(objectOf(f.names(), f.with("none", ""))) + "\n"
			}
		}
		return out
	}
	want := tell(fullSession(t))
	for range 20 {
		if got := tell(fullSession(t)); got != want {
			t.Fatalf("one history tells %s and %s", want, got)
		}
	}
}
