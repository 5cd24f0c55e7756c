package keys_test

import (
	"math/rand"
	"slices"
	"strings"
	"testing"

	"notary/api"
	"notary/base"
	"notary/json"
	"notary/keys"
)

// k32 is what a k says of 32 bytes.
const k32 = "a2tra2tra2tra2tra2tra2tra2tra2tra2tra2tra2s"

const right = `{"alg":"HS256","k":"` + k32 + `","kid":"a","kty":"oct"}`

var rightKey = api.Key{Alg: 256, Kid: "a", Key: strings.Repeat("k", 32)}

func TestK2Right(t *testing.T) {
	checkParse(t, `{"keys":[]}`, nil)
	checkParse(t, " { \"keys\" : [ ] } ", nil)
	checkParse(t, setWith(right), []api.Key{rightKey})
	checkParse(t, "\t"+strings.NewReplacer(`{`, "{ ", `}`, "\n}", `:`, " : ", `,`, "\r,\t").Replace(setWith(right, objectOf(keyOf(512, "b")))),
		[]api.Key{rightKey, keyOf(512, "b")})
}

func TestK2Escapes(t *testing.T) {
	checkParse(t, `{"\u006beys":[{"\u0061lg":"HS25\u0036","\u006b":"\u0061`+k32[1:]+`","ki\u0064":"\u0061","kt\u0079":"o\u0063t"}]}`, []api.Key{rightKey})
	checkNoParse(t, `{"keys":[{"alg":¤"HS256\/","k":"`+k32+`","kid":"a","kty":"oct"}]}`, api.ErrAlg)
	checkNoParse(t, `{"keys":[{"alg":"HS256","k":"`+k32+`","kid":¤"a\u0000","kty":"oct"}]}`, api.ErrKid)
}

// Members in each of their orders.
func TestK2AnyOrder(t *testing.T) {
	m := []string{`"alg":"HS256"`, `"k":"` + k32 + `"`, `"kid":"a"`, `"kty":"oct"`}
	for a := range 4 {
		for b := range 4 {
			for c := range 4 {
				d := 6 - a - b - c
				if a == b || a == c || b == c {
					continue
				}
				checkParse(t, setWith(`{`+m[a]+","+m[b]+","+m[c]+","+m[d]+`}`), []api.Key{rightKey})
				for n := range 4 {
					some := []string{m[a], m[b], m[c], m[d]}[:n]
					checkNoParse(t, setWith(`¤{`+strings.Join(some, ",")+`}`), api.ErrNone)
				}
			}
		}
	}
}

func TestK2NoJSON(t *testing.T) {
	checkNoParseAt(t, "", api.ErrText, 0)
	checkNoParseAt(t, `{"keys":[`, api.ErrText, 9)
	checkNoParse(t, setWith(right)+"¤x", api.ErrText)
	checkNoParse(t, setWith(`1`, `{"alg":¤01}`), api.ErrText)
	checkNoParse(t, `[1,¤9007199254740992]`, api.ErrRange)
	checkNoParse(t, `{"keys":[1],¤"keys":[]}`, api.ErrTwice)
	checkNoParse(t, setWith(`{"kid":1,¤"kid":"a"}`), api.ErrTwice)
	checkNoParse(t, strings.Repeat("[", 32)+"¤[", api.ErrDeep)
	checkNoParseAt(t, strings.Repeat(" ", maxText)+"x", api.ErrLong, 0)
	text := setWith(right)
	checkNoParseAt(t, text+strings.Repeat(" ", maxText+1-len(text)), api.ErrLong, 0)
	checkParse(t, text+strings.Repeat(" ", maxText-len(text)), []api.Key{rightKey})
}

func TestK2NoSet(t *testing.T) {
	for _, text := range []string{"null", "true", "0", `"keys"`, "[]", `[{"keys":[]}]`, setWith(right)[8 : len(setWith(right))-1]} {
		checkNoParse(t, "¤"+text, api.ErrKind)
		checkNoParse(t, " \n¤"+text+" ", api.ErrKind)
	}
	for _, member := range []string{"null", "false", "1", `""`, "{}", right} {
		checkNoParse(t, `{"keys": ¤`+member+`}`, api.ErrKind)
	}
	for _, name := range []string{"", "key", "Keys", "KEYS", "keys ", "keyss", "kid", "\\u0000"} {
		checkNoParse(t, `{"`+name+`":¤[]}`, api.ErrKind)
		checkNoParse(t, `{"`+name+`":¤[],"keys":[]}`, api.ErrKind)
		checkNoParse(t, `{"keys":[`+right+`] , "`+name+`" : ¤[]}`, api.ErrKind)
	}
	checkNoParseAt(t, "{}", api.ErrNone, 0)
	checkNoParseAt(t, " { } ", api.ErrNone, 0)
}

func TestK2NoKeys(t *testing.T) {
	for _, kid := range []string{"null", "true", "1", `"a"`, "[]", `[` + right + `]`} {
		checkNoParse(t, setWith("¤"+kid), api.ErrKind)
		checkNoParse(t, setWith(right, "¤"+kid), api.ErrKind)
		checkNoParse(t, setWith("¤"+kid, `1`, `{"x":1}`), api.ErrKind)
	}
}

func TestK2Many(t *testing.T) {
	var objects []string
	for _, k := range many(maxKeys) {
		objects = append(objects, objectOf(k))
	}
	checkParse(t, setWith(objects...), many(maxKeys))
	all := strings.Join(objects, ",")
	checkNoParse(t, setWith(all, "¤"+right), api.ErrMany)
	checkNoParse(t, setWith(all, "¤"+right, right, "1"), api.ErrMany)
	checkNoParse(t, setWith(all, `¤{"x":1}`), api.ErrMany)
	checkNoParse(t, setWith(all, `¤{}`), api.ErrMany)
	checkNoParse(t, setWith(all, `¤1`), api.ErrKind)
	checkNoParse(t, setWith(all, `¤[]`, "{}"), api.ErrKind)
	// What the objects lack is asked behind it.
	none := strings.Repeat("{},", maxKeys)
	checkNoParse(t, setWith(none+"¤{}"), api.ErrMany)
	checkNoParse(t, setWith("¤"+none[:len(none)-1]), api.ErrNone)
}

func TestK2Members(t *testing.T) {
	for _, name := range []string{"", "Alg", "ALG", "al", "algs", "K", "kids", "use", "keys", "x", "key_ops"} {
		for _, value := range []string{`"oct"`, `"HS256"`, "1", "[]"} {
			checkNoParse(t, setWith(`{"`+name+`":¤`+value+`}`), api.ErrKind)
			checkNoParse(t, setWith(right, right[:len(right)-1]+`,"`+name+`":¤`+value+`}`, `{"alg":1}`), api.ErrKind)
		}
	}
	for _, name := range []string{"alg", "k", "kid", "kty"} {
		for _, value := range []string{"null", "true", "0", "256", "[]", `["HS256"]`, "{}", `{"alg":"HS1"}`} {
			checkNoParse(t, setWith(`{"`+name+`":¤`+value+`}`), api.ErrKind)
		}
	}
}

func TestK2Values(t *testing.T) {
	for name, wrong := range map[string]struct {
		err    api.Errno
		values []string
	}{
		"alg": {api.ErrAlg, []string{"", "256", "none", "hs256", "HS1", "HS128", "HS2560", " HS256", "HS256 ", "RS256", "HS-256"}},
		"kid": {api.ErrKid, []string{"", " ", "a b", "a.", "é", "a/", strings.Repeat("a", maxKid+1)}},
		"k":   {api.ErrText, []string{"A", "AB", "AAB", "AA=", "AA==", "A+", "A/", "A A", "é", k32 + "AA", k32[:42] + "t"}},
		"kty": {api.ErrText, []string{"", "Oct", "OCT", "RSA", "oct ", "octt", "oc"}},
	} {
		for _, value := range wrong.values {
			checkNoParse(t, setWith(`{"`+name+`":¤"`+value+`"}`), wrong.err)
			checkNoParse(t, setWith(right, `{ "`+name+`" :  ¤"`+value+`", "x":1}`, "1"), wrong.err)
		}
	}
	for name, values := range map[string][]string{
		"alg": {"HS256", "HS384", "HS512"},
		"kid": {"-", "_", "0", strings.Repeat("Z", maxKid)},
		"k":   {"", "AA", k32, strings.Repeat("A", 60000)},
		"kty": {"oct"},
	} {
		for _, value := range values {
			checkNoParse(t, setWith(`¤{"`+name+`":"`+value+`"}`), api.ErrNone)
		}
	}
}

// What is wrong with a node is told ahead of what is wrong with a key, and of two nodes the first one.
func TestK2Order(t *testing.T) {
	short := `{"alg":"HS512","k":"` + k32 + `","kid":"a","kty":"oct"}`
	other := `{"alg":"HS256","k":"` + k32 + `","kid":"b","kty":"oct"}`
	for _, late := range []string{"¤1", `{"x":¤1}`, `{"alg":¤"HS1"}`, `{"kid":¤""}`, `{"k":¤"A"}`, `{"kty":¤"x"}`} {
		want := api.ErrKind
		for name, e := range map[string]api.Errno{"alg": api.ErrAlg, `"k"`: api.ErrText, "kid": api.ErrKid, "kty": api.ErrText} {
			if strings.Contains(late, name) {
				want = e
			}
		}
		for _, early := range []string{right, "{}", short, right + "," + right} {
			checkNoParse(t, setWith(early, late, "2", `{"k":"A"}`), want)
			checkNoParse(t, `{"keys":[`+early+","+late+`],"x":1}`, want)
		}
	}
	checkNoParse(t, `{"keys":[{}],"x":¤1}`, api.ErrKind)
	checkNoParse(t, setWith(right, "¤"+short), api.ErrKey)
	checkNoParse(t, setWith(right, "¤"+right), api.ErrTwice)
	checkNoParse(t, setWith(right, `¤{"kid":"a"}`), api.ErrNone)
	checkNoParse(t, setWith(right, other, "¤"+other, right, "{}"), api.ErrTwice)
	checkNoParse(t, setWith(right, "¤{}", right), api.ErrNone)
	checkNoParse(t, setWith("¤"+short, "{}", right), api.ErrKey)
	checkNoParse(t, setWith(other, "¤"+short, short), api.ErrKey)
	checkNoParse(t, setWith("¤{}", "{}"), api.ErrNone)
}

func TestK2NewMemory(t *testing.T) {
	text := setOf(many(3))
	first, _, _ := keys.Parse(text)
	second, _, _ := keys.Parse(text)
	first[0] = api.Key{}
	if !slices.Equal(second, many(3)) {
		t.Error("two answers share memory")
	}
}

// nodeError tells what K2 says of one node, by what it is a kid of; index is its number among the kids.
func nodeError(nodes []api.Node, n int, line []int, index int) api.Errno {
	node := nodes[n]
	switch len(line) {
	case 0:
		if node.Kind != 5 {
			return api.ErrKind
		}
	case 1:
		if node.Key != "keys" || node.Kind != 4 {
			return api.ErrKind
		}
	case 2:
		if node.Kind != 5 {
			return api.ErrKind
		}
		if index >= maxKeys {
			return api.ErrMany
		}
	case 3:
		return memberError(node)
	}
	return api.OK
}

func memberError(node api.Node) api.Errno {
	_, decoded, _ := base.Decode(node.Text)
	switch {
	case !slices.Contains([]string{"alg", "k", "kid", "kty"}, node.Key) || node.Kind != 3:
		return api.ErrKind
	case node.Key == "alg" && !slices.Contains([]string{"HS256", "HS384", "HS512"}, node.Text):
		return api.ErrAlg
	case node.Key == "kid" && (len(node.Text) < 1 || len(node.Text) > maxKid || strings.Trim(node.Text, "kab0") != ""):
		return api.ErrKid
	case node.Key == "k" && decoded != api.OK, node.Key == "kty" && node.Text != "oct":
		return api.ErrText
	}
	return api.OK
}

// wanted tells what K2 says of a text, node by node in the order of their numbers.
func wanted(text string) ([]api.Key, api.Errno, int) {
	nodes, e, at := json.Parse(text)
	if e != api.OK {
		return nil, e, at
	}
	lines := make([][]int, len(nodes))
	index := make([]int, len(nodes))
	for n, node := range nodes {
		for i, kid := range node.Kids {
			lines[kid], index[kid] = append(slices.Clone(lines[n]), n), i
		}
	}
	for n := range nodes {
		if e := nodeError(nodes, n, lines[n], index[n]); e != api.OK {
			return nil, e, nodes[n].At
		}
	}
	if len(nodes) == 1 {
		return nil, api.ErrNone, 0
	}
	return wantedKeys(nodes)
}

func wantedKeys(nodes []api.Node) ([]api.Key, api.Errno, int) {
	var l []api.Key
	for _, n := range nodes[1].Kids {
		has := map[string]string{}
		for _, kid := range nodes[n].Kids {
			has[nodes[kid].Key] = nodes[kid].Text
		}
		k := api.Key{Alg: map[string]int{"HS256": 256, "HS384": 384, "HS512": 512}[has["alg"]], Kid: has["kid"]}
		k.Key, _, _ = base.Decode(has["k"])
		switch {
		case len(has) < 4:
			return nil, api.ErrNone, nodes[n].At
		case len(k.Key)*8 < k.Alg || len(k.Key) > maxKey:
			return nil, api.ErrKey, nodes[n].At
		case slices.ContainsFunc(l, func(other api.Key) bool { return other.Kid == k.Kid }):
			return nil, api.ErrTwice, nodes[n].At
		}
		l = append(l, k)
	}
	return l, api.OK, 0
}

// Sets at random, of which most are right but for a thing or two.
func TestK2SetsAtRandom(t *testing.T) {
	r := rand.New(rand.NewSource(1))
	told := map[api.Errno]int{}
	for range 20000 {
		text := randomSet(r)
		want, e, at := wanted(text)
		told[e]++
		if e == api.OK {
			checkParse(t, text, want)
		} else {
			checkNoParseAt(t, text, e, at)
		}
	}
	for _, e := range []api.Errno{api.OK, api.ErrKind, api.ErrMany, api.ErrAlg, api.ErrKid, api.ErrText, api.ErrNone, api.ErrKey, api.ErrTwice} {
		if told[e] < 50 {
			t.Errorf("error %d was told %d times only", e, told[e])
		}
	}
}

func randomSet(r *rand.Rand) string {
	var objects []string
	n := r.Intn(4)
	if r.Intn(8) == 0 {
		n = maxKeys - 1 + r.Intn(4)
	}
	for i := range n {
		objects = append(objects, randomObject(r, i))
	}
	text := `"keys":[` + strings.Join(objects, " ,") + `]`
	switch r.Intn(30) {
	case 0:
		return `{"x":[],` + text + `}`
	case 1:
		return `{ ` + text + `,"x":1}`
	case 2:
		return `{}`
	}
	return ` {` + text + ` }`
}

func randomObject(r *rand.Rand, i int) string {
	if r.Intn(60) == 0 {
		return pick(r, "1", "null", "[]", `"a"`)
	}
	alg := algs[r.Intn(3)]
	size := alg / 8
	if r.Intn(40) == 0 {
		size = r.Intn(2 * maxKey)
	}
	kid := "k" + strings.Repeat("a", i%maxKid)
	if r.Intn(30) == 0 {
		kid = pick(r, "k", "ka", "", "!")
	}
	members := []string{
		`"alg":` + usually(r, `"HS`+map[int]string{256: "256", 384: "384", 512: "512"}[alg]+`"`, `"HS1"`, "256"),
		`"k": ` + usually(r, `"`+encode(bytesOf(size))+`"`, `"A"`, "[]", `""`),
		`"kid":` + usually(r, `"`+kid+`"`, `"b0"`, "{}", `"\u006b"`),
		`"kty" :` + usually(r, `"oct"`, `"RSA"`, "null"),
	}
	r.Shuffle(4, func(a, b int) { members[a], members[b] = members[b], members[a] })
	switch r.Intn(40) {
	case 0:
		members = members[1:]
	case 1:
		members = append(members, `"use":"sig"`)
	}
	return "{" + strings.Join(members, ", ") + "}"
}

func usually(r *rand.Rand, right string, wrong ...string) string {
	if r.Intn(60) == 0 {
		return pick(r, wrong...)
	}
	return right
}

func pick(r *rand.Rand, from ...string) string { return from[r.Intn(len(from))] }
