package notary_test

import (
	library "encoding/json"
	"fmt"
	"maps"
	"math/rand"
	"slices"
	"strconv"
	"strings"
	"testing"

	"notary/api"
	"notary/base"
	"notary/door"
	"notary/issuer"
	"notary/json"
)

// beside does what a session does by an issuer and a door of its own; the library reads its requests.
type beside struct {
	issuer *issuer.Issuer
	door   *door.Door
}

// told are the members of each op, each beside a value of its kind as the library reads it.
var told = map[string]map[string]any{
	"tick": {"n": 0.0}, "rotate": {"alg": 0.0, "key": ""}, "retire": {"kid": ""}, "export": {}, "allow": {"alg": 0.0, "yes": false},
	"load": {"set": map[string]any{}}, "issue": {"claims": map[string]any{}}, "verify": {"token": ""},
}

// fits tells whether a request, read by the library, has just the members that are told.
func fits(request map[string]any) bool {
	op, _ := request["op"].(string)
	members, known := told[op]
	if !known || len(request) != len(members)+1 {
		return false
	}
	for name, value := range members {
		if fmt.Sprintf("%T", request[name]) != fmt.Sprintf("%T", value) {
			return false
		}
	}
	return true
}

// wanted tells what a session must answer to a text that the library can read.
func (b beside) wanted(text string) string {
	var request map[string]any
	if library.Unmarshal([]byte(text), &request) != nil || !fits(request) {
		return errorIs(api.ErrKind)
	}
	answer, e := b.do(text, request)
	if e != api.OK {
		return errorIs(e)
	}
	return answer
}

func (b beside) do(text string, request map[string]any) (string, api.Errno) {
	number := func(name string) int { return int(request[name].(float64)) }
	word := func(name string) string { return request[name].(string) }
	switch request["op"] {
	case "tick":
		now, e := b.issuer.Tick(number("n"))
		b.door.Tick(number("n"))
		return nowIs(now), e
	case "rotate":
		key, e, _ := base.Decode(word("key"))
		if e != api.OK {
			return "", api.ErrText
		}
		kid, e := b.issuer.Rotate(number("alg"), key)
		return kidIs(kid), e
	case "retire":
		return "{}", b.issuer.Retire(word("kid"))
	case "export":
		return b.issuer.Export(), api.OK
	case "allow":
		return "{}", b.door.Allow(number("alg"), request["yes"].(bool))
	case "load":
		e, _ := b.door.Load(formOf(text, "set"))
		return "{}", e
	case "issue":
		token, e, _ := b.issuer.Issue(formOf(text, "claims"))
		return tokenIs(token), e
	}
	kid, claims, e, _ := b.door.Verify(word("token"))
	return claimsAre(claims, kid), e
}

// formOf tells the one form of a member's text.
func formOf(text, name string) string {
	var raw map[string]library.RawMessage
	library.Unmarshal([]byte(text), &raw)
	form, _, _ := json.Print(string(raw[name]))
	return form
}

// asker makes requests at random.
type asker struct {
	*rand.Rand
	tokens []string // those that were issued
	set    string   // what was exported last
}

func (a *asker) one(values ...string) string { return values[a.Intn(len(values))] }

// value tells a value for a member, mostly a right one.
func (a *asker) value(name string) string {
	if a.Intn(25) == 0 {
		return a.one("null", "true", "5", `"5"`, "[]", "{}")
	}
	switch name {
	case "n":
		return a.one("0", "1", "2", "5", "-1")
	case "alg":
		return a.one("256", "384", "512", "256", "384", "512", "257")
	case "key":
		return a.one(`"`+encode(bytesOf(64+a.Intn(3)))+`"`, `"`+encode(bytesOf(64))+`"`, `"`+encode(bytesOf(40))+`"`, `"A"`)
	case "kid":
		return `"k` + strconv.Itoa(a.Intn(30)) + `"`
	case "yes":
		return a.one("true", "true", "false")
	case "set":
		return a.one(a.set, a.set, a.set, strings.Replace(a.set, "k1", "k2", 1), setOf(keyOf(256, "k1"), keyOf(512, "k3")), `{"keys":[{"kty":1,"alg":"HS1"}]}`, "{}")
	case "claims":
		return a.one(`{"aud":"me"}`, `{ "x" : [1, -0], "aud":["you","me"] }`, `{"aud":"you"}`, `{"iss":1,"aud":1}`, `{"iss":1,"aud":"me"}`, "{}")
	}
	if len(a.tokens) == 0 {
		return `"a.b.c"`
	}
	recent := a.tokens[max(0, len(a.tokens)-6):]
	token := recent[a.Intn(len(recent))]
	return a.one(`"`+token+`"`, `"`+token+`"`, `"`+token+`"`, `"`+token[:len(token)-4]+`"`, `"`+strings.Replace(token, ".", "A.", 1)+`"`)
}

func (a *asker) request() string {
	op := a.one("tick", "rotate", "rotate", "retire", "export", "allow", "load", "load", "issue", "issue", "verify", "verify", "verify", "x")
	members := []string{`"op":"` + op + `"`}
	for _, name := range slices.Sorted(maps.Keys(told[op])) {
		members = append(members, `"`+name+`": `+a.value(name))
	}
	switch a.Intn(30) {
	case 0:
		members = append(members, `"`+a.one("x", "n", "alg", "")+`" : 1`)
	case 1:
		members = members[1:]
	case 2:
		members = members[:len(members)-1]
	}
	a.Shuffle(len(members), func(i, j int) { members[i], members[j] = members[j], members[i] })
	return " {" + strings.Join(members, a.one(",", " , ", ",\n")) + "} "
}

// keep holds on to what an answer tells, so that it can be asked of.
func (a *asker) keep(answer string) {
	if token, ok := strings.CutPrefix(answer, `{"token":"`); ok {
		a.tokens = append(a.tokens, strings.TrimSuffix(token, `"}`))
	}
	if strings.HasPrefix(answer, `{"keys":`) {
		a.set = answer
	}
}

// Whole histories at random; a session answers as an issuer and a door do that are used by themselves.
func TestN2AtRandom(t *testing.T) {
	seen := map[string]int{}
	for seed := range int64(60) {
		a := &asker{Rand: rand.New(rand.NewSource(seed)), set: `{"keys":[]}`}
		s := newSession(t, configOf("it", "me", 6, 1))
		var b beside
		b.issuer, _ = issuer.New("it", 6)
		b.door, _ = door.New("it", "me", 1)
		for range 150 {
			request := a.request()
			if _, e, _ := json.Parse(request); e == api.ErrTwice {
				continue
			}
			want := b.wanted(request)
			checkDo(t, s, request, want)
			a.keep(want)
			seen[kindOf(want)]++
		}
	}
	for _, kind := range []string{`{"now"`, `{"kid"`, `{}`, `{"keys"`, `{"token"`, `{"claims"`, errorIs(2), errorIs(3), errorIs(4), errorIs(6), errorIs(7), errorIs(9), errorIs(10), errorIs(12), errorIs(14), errorIs(16), errorIs(18)} {
		if seen[kind] < 5 {
			t.Errorf("the answer %s came up %d times only", kind, seen[kind])
		}
	}
}

// kindOf tells of an error all of it, of another answer what it is called.
func kindOf(answer string) string {
	if strings.HasPrefix(answer, `{"error"`) {
		return answer
	}
	name, _, _ := strings.Cut(answer, ":")
	return name
}

// Texts that are broken at random: each is answered by an object in its one form, and by Parse's error where it tells one.
func TestN2AnyText(t *testing.T) {
	r := rand.New(rand.NewSource(8))
	signs := "{}[]\":,\\u0n-9 x\xff"
	s := fullSession(t)
	for range 20000 {
		f := forms()[r.Intn(8)]
		text := []byte(objectOf(f.names(), f.with("none", "")))
		for range 1 + r.Intn(3) {
			text[r.Intn(len(text))] = signs[r.Intn(len(signs))]
		}
		answer := s.Do(string(text))
		if form, e, _ := json.Print(answer); e != api.OK || form != answer || answer[0] != '{' {
			t.Errorf("Do(%q) = %q", text, answer)
		}
		if _, e, _ := json.Parse(string(text)); e != api.OK && answer != errorIs(e) {
			t.Errorf("Do(%q) = %s, want %s", text, answer, errorIs(e))
		}
	}
}
