package notary_test

import (
	"math/rand"
	"slices"
	"strconv"
	"strings"
	"testing"

	"notary/api"
	"notary/json"
	"notary/notary"
)

const right = `{"iss":"it","aud":"me","ttl":10,"leeway":2}`

var names = []string{"iss", "aud", "ttl", "leeway"}

// four tells the members of right, by their names.
func four() map[string]string {
	return map[string]string{"iss": `"it"`, "aud": `"me"`, "ttl": "10", "leeway": "2"}
}

// objectOf writes members in an order; a name that has none is left out.
func objectOf(order []string, members map[string]string) string {
	var out []string
	for _, name := range order {
		if value, ok := members[name]; ok {
			out = append(out, `"`+name+`":`+value)
		}
	}
	return "{" + strings.Join(out, ",") + "}"
}

// orders tells names in every order.
func orders(names []string) [][]string {
	if len(names) == 0 {
		return [][]string{{}}
	}
	var out [][]string
	for i, name := range names {
		for _, rest := range orders(slices.Delete(slices.Clone(names), i, i+1)) {
			out = append(out, append([]string{name}, rest...))
		}
	}
	return out
}

// checkIs holds a session, new, to the iss, aud, ttl and leeway that it was made of; none of the names is written with escapes.
func checkIs(t *testing.T, config, iss, aud string, ttl, leeway int) {
	t.Helper()
	s := newSession(t, config)
	k := keyOf(256, "k1")
	start := leeway + 5
	checkDo(t, s, ask("export"), `{"keys":[]}`)
	checkDo(t, s, askTick(start), nowIs(start))
	checkDo(t, s, askRotate(256, k.Key), kidIs("k1"))
	body := bodyOf(iss, aud, start, start+ttl)
	checkDo(t, s, askIssue(`{"aud":"`+aud+`"}`), tokenIs(tokenOf(k, body)))
	checkDo(t, s, askVerify(tokenOf(k, body)), errorIs(api.ErrNone))
	checkDo(t, s, askLoad(k), "{}")
	checkDo(t, s, askVerify(tokenOf(k, body)), errorIs(api.ErrAlg))
	checkDo(t, s, askAllow(256, true), "{}")
	checkDo(t, s, askVerify(tokenOf(k, body)), claimsAre(body, "k1"))
	checkDo(t, s, askVerify(tokenOf(k, bodyOf(iss+"x", aud, start, start+1))), errorIs(api.ErrIss))
	checkDo(t, s, askVerify(tokenOf(k, bodyOf(iss, aud+"x", start, start+1))), errorIs(api.ErrAud))
	soon, old := bodyOf(iss, aud, start+leeway, start+leeway+1), bodyOf(iss, aud, 0, start-leeway+1)
	checkDo(t, s, askVerify(tokenOf(k, soon)), claimsAre(soon, "k1"))
	checkDo(t, s, askVerify(tokenOf(k, old)), claimsAre(old, "k1"))
	checkDo(t, s, askVerify(tokenOf(k, bodyOf(iss, aud, start+leeway+1, maxInt))), errorIs(api.ErrEarly))
	checkDo(t, s, askVerify(tokenOf(k, bodyOf(iss, aud, 0, start-leeway))), errorIs(api.ErrLate))
}

func TestN1Right(t *testing.T) {
	for _, order := range orders(names) {
		checkIs(t, objectOf(order, four()), "it", "me", 10, 2)
	}
	checkIs(t, strings.NewReplacer(":", " :\t", ",", "\r\n, ", "{", " \n{ ", "}", " } ").Replace(right), "it", "me", 10, 2)
	checkIs(t, strings.NewReplacer("iss", `\u0069ss`, "ttl", `t\u0074l`, "me", `m\u0065`).Replace(right), "it", "me", 10, 2)
	checkIs(t, configOf("it", "it", 10, 2), "it", "it", 10, 2)
}

func TestN1Edges(t *testing.T) {
	long := strings.Repeat("é", maxName/2)
	checkIs(t, configOf("i", "m", 1, 0), "i", "m", 1, 0)
	checkIs(t, configOf(long, "me", 10, 2), long, "me", 10, 2)
	checkIs(t, configOf("it", long, 10, 2), "it", long, 10, 2)
	checkIs(t, configOf("it", "me", maxTTL, 2), "it", "me", maxTTL, 2)
	checkIs(t, configOf("it", "me", 10, maxLeeway), "it", "me", 10, maxLeeway)
	checkIs(t, strings.Replace(right, ":2", ":-0", 1), "it", "me", 10, 0)
	checkIs(t, right+strings.Repeat(" ", maxText-len(right)), "it", "me", 10, 2)
}

func TestN1NotJSON(t *testing.T) {
	for _, c := range []struct {
		marked string
		want   api.Errno
	}{
		{"¤", api.ErrText}, {" ¤", api.ErrText}, {"¤x", api.ErrText}, {"[¤", api.ErrText}, {"{¤", api.ErrText},
		{right[:len(right)-1] + "¤", api.ErrText}, {right + "¤]", api.ErrText}, {right[:len(right)-1] + ",¤}", api.ErrText},
		{strings.Replace(right, "10", "¤010", 1), api.ErrText}, {strings.Replace(right, "10", "1¤.0", 1), api.ErrText},
		{strings.Replace(right, "it", "¤\xff", 1), api.ErrText}, {strings.Replace(right, "it", `¤\ud800`, 1), api.ErrText},
		{strings.Replace(right, "10", "¤9007199254740992", 1), api.ErrRange}, {strings.Replace(right, "2}", "¤-9007199254740992}", 1), api.ErrRange},
		{right[:len(right)-1] + `,¤"iss":"it"}`, api.ErrTwice}, {`{"x":1,¤"\u0078":2}`, api.ErrTwice},
		{strings.Repeat("[", maxDepth) + "¤[", api.ErrDeep}, {`{"iss":1,"a":` + strings.Repeat("[", maxDepth-1) + "¤{", api.ErrDeep},
		{right + strings.Repeat(" ", maxText+1-len(right)), api.ErrLong}, {strings.Repeat("x", maxText+1), api.ErrLong},
		{`{"iss":1,"x":2 ¤`, api.ErrText},
	} {
		checkNoNew(t, c.marked, c.want)
	}
}

func TestN1NoObject(t *testing.T) {
	for _, text := range []string{"null", "true", "false", "0", "-5", `""`, `"it"`, "[]", "[" + right + "]", `["iss","aud","ttl","leeway"]`} {
		checkNoNew(t, "¤"+text, api.ErrKind)
		checkNoNew(t, " \t\r\n¤"+text+" ", api.ErrKind)
	}
}

func TestN1OtherNames(t *testing.T) {
	for _, name := range []string{"", "x", "Iss", "ISS", "iss ", " iss", "is", "isss", "op", "kid", "now", "ttl_", "lee", "leeway2", `iss\u0000`, "exp", "é"} {
		for _, value := range []string{"1", `"it"`, "null", right} {
			checkNoNew(t, `{"`+name+`":¤`+value+`}`, api.ErrKind)
			checkNoNew(t, right[:len(right)-1]+` , "`+name+`" : ¤`+value+` }`, api.ErrKind)
			checkNoNew(t, `{ "`+name+`": ¤`+value+`,`+right[1:], api.ErrKind)
		}
	}
}

// others tells a value of each kind but one.
func others(kind int) []string {
	var out []string
	for n, values := range [][]string{{"null"}, {"true", "false"}, {"0", "5", "-1", "256"}, {`""`, `"10"`, `"it"`}, {"[]", "[1]", `["it"]`}, {"{}", `{"keys":[]}`, `{"aud":"me"}`}} {
		if n != kind {
			out = append(out, values...)
		}
	}
	return out
}

var kinds = map[string]int{"iss": json.KindString, "aud": json.KindString, "ttl": json.KindInteger, "leeway": json.KindInteger}

func TestN1OtherKinds(t *testing.T) {
	for _, name := range names {
		for _, value := range others(kinds[name]) {
			checkNoNew(t, `{"`+name+`":¤`+value+`}`, api.ErrKind)
			for _, order := range orders(names) {
				members := four()
				members[name] = "¤" + value
				checkNoNew(t, objectOf(order, members), api.ErrKind)
			}
		}
	}
}

// Of several members that are wrong the first one in the text is told, whatever it is called.
func TestN1First(t *testing.T) {
	wrong := map[string]string{"iss": "1", "aud": "[]", "ttl": `"a"`, "leeway": "null", "x": "{}", "a": "2"}
	for first := range wrong {
		for second := range wrong {
			if first != second {
				checkNoNew(t, `{"`+first+`":¤`+wrong[first]+`,"`+second+`":`+wrong[second]+`}`, api.ErrKind)
				checkNoNew(t, `{"aud" : "" ,"`+strings.Replace(first, "aud", "b", 1)+`": ¤`+wrong[first]+`,"`+strings.Replace(second, "aud", "b", 1)+`":`+wrong[second]+`}`, api.ErrKind)
			}
		}
	}
	checkNoNew(t, `{"x":¤[{"iss":1}],"y":2}`, api.ErrKind)
}

func TestN1Lacks(t *testing.T) {
	for _, order := range orders(names) {
		for n := range 4 {
			checkNoNew(t, " "+objectOf(order[:n], four()), api.ErrNone)
		}
	}
	checkNoNew(t, "{}", api.ErrNone)
	checkNoNew(t, " { } ", api.ErrNone)
}

func TestN1Refused(t *testing.T) {
	for _, name := range []string{"", strings.Repeat("x", maxName+1), strings.Repeat("é", maxName/2) + "x", strings.Repeat("x", 60000)} {
		checkNoNew(t, configOf(name, "me", 10, 2), api.ErrText)
		checkNoNew(t, configOf("it", name, 10, 2), api.ErrText)
	}
	for _, ttl := range []int{0, -1, -10, maxTTL + 1, maxInt, -maxInt} {
		checkNoNew(t, configOf("it", "me", ttl, 2), api.ErrRange)
	}
	for _, leeway := range []int{-1, -2, maxLeeway + 1, maxInt, -maxInt} {
		checkNoNew(t, configOf("it", "me", 10, leeway), api.ErrRange)
	}
}

// Of several errors the one that is named first.
func TestN1Order(t *testing.T) {
	checkNoNew(t, configOf("", "", 0, -1), api.ErrText)
	checkNoNew(t, configOf("", "me", 0, -1), api.ErrText)
	checkNoNew(t, configOf("it", "", 0, -1), api.ErrRange)
	checkNoNew(t, configOf("it", "", 0, 2), api.ErrRange)
	checkNoNew(t, configOf("it", "", 10, -1), api.ErrText)
	checkNoNew(t, `{"leeway":-1,"ttl":10,"aud":"","iss":"it"}`, api.ErrText)
	checkNoNew(t, `{"aud":"","ttl":0,"leeway":2,"iss":"it"}`, api.ErrRange)
	checkNoNew(t, `{"iss":"","ttl":0,"leeway":-1}`, api.ErrNone)
	checkNoNew(t, `{"aud":"","ttl":0,"leeway":-1}`, api.ErrNone)
	checkNoNew(t, `{"iss":"","aud":"","ttl":0,"leeway":¤null}`, api.ErrKind)
	checkNoNew(t, `{"iss":"","x":¤0}`, api.ErrKind)
	checkNoNew(t, `{"iss":1,"x":0,"ttl":¤9007199254740992}`, api.ErrRange)
	checkNoNew(t, `[{"iss":1,¤}]`, api.ErrText)
}

// wanted says N1 once more, by a config's nodes.
func wanted(nodes []api.Node) (api.Errno, int) {
	got := map[string]api.Node{}
	for _, kid := range nodes[0].Kids {
		m := nodes[kid]
		if kind, ok := kinds[m.Key]; !ok || kind != m.Kind {
			return api.ErrKind, m.At
		}
		got[m.Key] = m
	}
	wrongName := func(s string) bool { return s == "" || len(s) > maxName }
	switch {
	case len(got) < 4:
		return api.ErrNone, 0
	case wrongName(got["iss"].Text):
		return api.ErrText, 0
	case got["ttl"].Num < 1 || got["ttl"].Num > maxTTL:
		return api.ErrRange, 0
	case wrongName(got["aud"].Text):
		return api.ErrText, 0
	case got["leeway"].Num < 0 || got["leeway"].Num > maxLeeway:
		return api.ErrRange, 0
	}
	return api.OK, 0
}

func randomConfig(r *rand.Rand) string {
	members := four()
	for range r.Intn(4) {
		name := []string{"iss", "aud", "ttl", "leeway", "x"}[r.Intn(5)]
		values := []string{`""`, `"a"`, `"` + strings.Repeat("b", maxName+r.Intn(2)) + `"`, "0", "-1", strconv.Itoa(maxLeeway + r.Intn(2)), strconv.Itoa(maxTTL + r.Intn(2)), "null", `{"iss":"it"}`}
		members[name] = values[r.Intn(len(values))]
		if r.Intn(6) == 0 {
			delete(members, name)
		}
	}
	order := append([]string{"x"}, names...)
	r.Shuffle(len(order), func(a, b int) { order[a], order[b] = order[b], order[a] })
	return objectOf(order, members)
}

func TestN1AtRandom(t *testing.T) {
	r := rand.New(rand.NewSource(5))
	seen := map[api.Errno]int{}
	for range 20000 {
		config := randomConfig(r)
		nodes, _, _ := json.Parse(config)
		want, place := wanted(nodes)
		seen[want]++
		if s, e, at := notary.New(config); (s != nil) != (want == api.OK) || e != want || at != place {
			t.Errorf("New(%q) = %v, %d, %d, want %d, %d", config, s, e, at, want, place)
		}
	}
	for _, e := range []api.Errno{api.OK, api.ErrKind, api.ErrNone, api.ErrText, api.ErrRange} {
		if seen[e] < 300 {
			t.Errorf("the answer %d came up %d times only", e, seen[e])
		}
	}
}

// Two sessions of one config share nothing: what is done to one is not to be seen of the other.
func TestN1Apart(t *testing.T) {
	used, other := fullSession(t), newSession(t, configOf("it", "me", 10, 0))
	fresh := look(newSession(t, configOf("it", "me", 10, 0)))
	if got := look(other); got != fresh {
		t.Errorf("a session that nothing was done to tells %s, want %s", got, fresh)
	}
	was := look(used)
	checkDo(t, other, askTick(100), nowIs(100))
	checkDo(t, other, askRotate(384, bytesOf(50)), kidIs("k1"))
	checkDo(t, other, askAllow(384, true), "{}")
	checkDo(t, other, askLoad(keyOf(384, "other")), "{}")
	checkDo(t, other, askRetire("k1"), "{}")
	checkDo(t, other, askRotate(384, bytesOf(51)), kidIs("k2"))
	if got := look(used); got != was {
		t.Errorf("what was done to another session changed this one from %s to %s", was, got)
	}
}
