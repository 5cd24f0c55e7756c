package claims_test

import (
	"math/rand"
	"slices"
	"strconv"
	"strings"
	"testing"

	"notary/api"
	"notary/claims"
	"notary/json"
)

const whole = `{"aud":["me","you"],"exp":20,"iat":10,"iss":"it","nbf":11}`

func wholeClaims() api.Claims {
	return api.Claims{Iss: "it", Aud: []string{"me", "you"}, Iat: 10, Nbf: 11, Exp: 20}
}

// five tells the members of claims, by their names.
func five() map[string]string {
	return map[string]string{"iss": `"it"`, "aud": `"me"`, "iat": "1", "nbf": "2", "exp": "3"}
}

var names = []string{"iss", "aud", "iat", "nbf", "exp"}

// objectOf writes members in an order; a name that has none is left out.
func objectOf(order []string, members map[string]string) string {
	var out []string
	for _, name := range order {
		if value, ok := members[name]; ok {
			out = append(out, `"`+name+`":`+value)
		}
	}
	return "{" + strings.Join(out, ",") + "}"
}

func TestD1Right(t *testing.T) {
	checkRead(t, whole, wholeClaims())
	checkRead(t, strings.NewReplacer(":", " :\t", ",", "\r\n, ", "{", " { ", "[", "[ ").Replace(whole), wholeClaims())
	checkRead(t, strings.NewReplacer("aud", `\u0061ud`, "exp", `e\u0078p`, `"it"`, `"\u0069t"`).Replace(whole), wholeClaims())
	checkRead(t, `{"iss":"","aud":"","iat":0,"nbf":-0,"exp":9007199254740991}`, api.Claims{Aud: []string{""}, Exp: maxInt})
	checkRead(t, `{"iss":"é\n\"","aud":["a","a",""],"iat":9007199254740991,"nbf":9007199254740991,"exp":0}`,
		api.Claims{Iss: "é\n\"", Aud: []string{"a", "a", ""}, Iat: maxInt, Nbf: maxInt})
}

// Members in every order, and with one missing.
func TestD1AnyOrder(t *testing.T) {
	r := rand.New(rand.NewSource(2))
	for range 200 {
		order := slices.Clone(names)
		r.Shuffle(5, func(a, b int) { order[a], order[b] = order[b], order[a] })
		checkRead(t, objectOf(order, five()), api.Claims{Iss: "it", Aud: []string{"me"}, Iat: 1, Nbf: 2, Exp: 3})
		for n := range 5 {
			checkNoReadAt(t, objectOf(order[:n], five()), api.ErrNone, 0)
			members := five()
			delete(members, order[n])
			checkNoReadAt(t, " "+objectOf(order, members), api.ErrNone, 0)
		}
	}
}

// What has another name is not looked at, and takes no place of one that is missing.
func TestD1Others(t *testing.T) {
	others := []string{`"x":1`, `"":null`, `"Iss":2`, `"iss ":[]`, `"audience":1`, `"jti":{"iss":1,"aud":[],"iat":-1}`, `"sub":[[],{}]`, `"exp\u0000":-1`}
	checkRead(t, `{`+strings.Join(others, ",")+","+whole[1:], wholeClaims())
	checkRead(t, whole[:len(whole)-1]+","+strings.Join(others, ",")+"}", wholeClaims())
	checkNoReadAt(t, `{`+strings.Join(others, ",")+"}", api.ErrNone, 0)
	checkNoReadAt(t, `{"x":`+whole+`}`, api.ErrNone, 0)
}

func TestD1NotJSON(t *testing.T) {
	for _, c := range notJSON {
		checkNoRead(t, c.marked, c.want)
	}
	checkRead(t, whole+strings.Repeat(" ", maxText-len(whole)), wholeClaims())
	checkNoReadAt(t, whole+strings.Repeat(" ", maxText+1-len(whole)), api.ErrLong, 0)
}

func TestD1NoObject(t *testing.T) {
	for _, text := range noObjects {
		checkNoRead(t, "¤"+text, api.ErrKind)
		checkNoRead(t, " \n\t¤"+text+" ", api.ErrKind)
	}
	checkNoReadAt(t, "{}", api.ErrNone, 0)
}

func TestD1Kinds(t *testing.T) {
	wrong := map[string][]string{"iss": {"¤null", "¤true", "¤1", "¤[]", `¤["it"]`, "¤{}"}, "aud": noAuds}
	for _, name := range []string{"iat", "nbf", "exp"} {
		wrong[name] = []string{"¤null", "¤true", "¤false", `¤""`, `¤"1"`, "¤[]", "¤[1]", "¤{}"}
	}
	for name, values := range wrong {
		for _, value := range values {
			checkNoRead(t, `{"`+name+`":`+value+`}`, api.ErrKind)
			members := five()
			members[name] = value
			checkNoRead(t, objectOf(names, members), api.ErrKind)
			checkNoRead(t, ` { "`+name+`" : `+value+`, "aux":1, "x":[] }`, api.ErrKind)
		}
	}
}

func TestD1Below(t *testing.T) {
	for _, name := range []string{"iat", "nbf", "exp"} {
		for _, value := range []string{"-1", "-2", "-9007199254740991"} {
			members := five()
			members[name] = "¤" + value
			checkNoRead(t, objectOf(names, members), api.ErrRange)
			checkNoRead(t, `{"`+name+`":¤`+value+`}`, api.ErrRange)
		}
	}
}

// Of several members that are wrong the first one, and what is wrong ahead of what is missing.
func TestD1First(t *testing.T) {
	wrong := map[string]string{"iss": "1", "aud": "[]", "iat": `"a"`, "nbf": "-1", "exp": "-2"}
	errs := map[string]api.Errno{"iss": api.ErrKind, "aud": api.ErrKind, "iat": api.ErrKind, "nbf": api.ErrRange, "exp": api.ErrRange}
	for _, first := range names {
		for _, second := range names {
			if first != second {
				checkNoRead(t, `{"`+first+`":¤`+wrong[first]+`,"`+second+`":`+wrong[second]+`}`, errs[first])
			}
		}
	}
	checkNoRead(t, `{"aud":["a",¤1],"iss":2}`, api.ErrKind)
}

func TestD1NewMemory(t *testing.T) {
	first, _, _ := claims.Read(whole)
	second, _, _ := claims.Read(whole)
	first.Aud[0] = "other"
	if second.Aud[0] != "me" {
		t.Error("two answers share memory")
	}
}

// wantedNumber, wantedAud and wanted say D1 once more, by the nodes of a text that is an object.
func wantedNumber(m api.Node) api.Errno {
	switch {
	case m.Kind != 2:
		return api.ErrKind
	case m.Num < 0:
		return api.ErrRange
	}
	return api.OK
}

func wantedAud(nodes []api.Node, m api.Node) (api.Errno, int) {
	if m.Kind == 3 {
		return api.OK, 0
	}
	if m.Kind != 4 || len(m.Kids) < 1 {
		return api.ErrKind, m.At
	}
	for _, kid := range m.Kids {
		if nodes[kid].Kind != 3 {
			return api.ErrKind, nodes[kid].At
		}
	}
	return api.OK, 0
}

func wanted(nodes []api.Node) (api.Errno, int) {
	has := map[string]bool{}
	for _, kid := range nodes[0].Kids {
		m := nodes[kid]
		e, at := api.OK, m.At
		switch m.Key {
		case "iss":
			if m.Kind != 3 {
				e = api.ErrKind
			}
		case "aud":
			e, at = wantedAud(nodes, m)
		case "iat", "nbf", "exp":
			e = wantedNumber(m)
		}
		if e != api.OK {
			return e, at
		}
		has[m.Key] = true
	}
	for _, name := range names {
		if !has[name] {
			return api.ErrNone, 0
		}
	}
	return api.OK, 0
}

func TestD1ClaimsAtRandom(t *testing.T) {
	r := rand.New(rand.NewSource(3))
	told := map[api.Errno]int{}
	for range 20000 {
		text := randomClaims(r)
		nodes, _, _ := json.Parse(text)
		e, at := wanted(nodes)
		told[e]++
		if e != api.OK {
			checkNoReadAt(t, text, e, at)
		} else if got, e, at := claims.Read(text); e != api.OK || at != 0 {
			t.Errorf("Read(%q) = %v, %d, %d", text, got, e, at)
		}
	}
	for _, e := range []api.Errno{api.OK, api.ErrKind, api.ErrRange, api.ErrNone} {
		if told[e] < 500 {
			t.Errorf("error %d was told %d times only", e, told[e])
		}
	}
}

func randomClaims(r *rand.Rand) string {
	members := map[string]string{"x": "[1]", "y": `{"iss":1}`}
	for name, value := range five() {
		members[name] = value
	}
	for i := range r.Intn(3) {
		name := names[r.Intn(5)]
		values := []string{strconv.Itoa(r.Intn(5) - 3), `"a"`, `["a","b"]`, `["a", 1]`, "[]", "null"}
		members[name] = values[r.Intn(len(values))]
		if i == 1 {
			delete(members, names[r.Intn(5)])
		}
	}
	order := append([]string{"x", "y"}, names...)
	r.Shuffle(len(order), func(a, b int) { order[a], order[b] = order[b], order[a] })
	return objectOf(order, members)
}
