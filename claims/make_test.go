package claims_test

import (
	stdjson "encoding/json"
	"math"
	"math/rand"
	"reflect"
	"strconv"
	"strings"
	"testing"

	"notary/api"
	"notary/claims"
	"notary/json"
)

const me = `{"aud":"me"}`

func TestD3Right(t *testing.T) {
	checkMake(t, me, "it", 5, 10, `{"aud":"me","exp":15,"iat":5,"iss":"it","nbf":5}`)
	checkMake(t, " { \"aud\" : [ \"me\" , \"you\" ] }\n", "it", 0, 1, `{"aud":["me","you"],"exp":1,"iat":0,"iss":"it","nbf":0}`)
	checkMake(t, `{"\u0061ud":"\u006de\/"}`, "it", 1, 2, `{"aud":"me/","exp":3,"iat":1,"iss":"it","nbf":1}`)
	checkMake(t, `{"z":{"y":1,"x":-0},"b":1,"aud":"me"}`, "é", 0, 10, `{"aud":"me","b":1,"exp":10,"iat":0,"iss":"é","nbf":0,"z":{"x":0,"y":1}}`)
}

// The four stand where their names belong, among names of all kinds.
func TestD3Order(t *testing.T) {
	checkMake(t, `{"nbg":1,"nbe":2,"isx":3,"isr":4,"iau":5,"ias":6,"exq":7,"exo":8,"":9,"aud":"a","\ud83d\ude00":10,"\uffff":11,"é":12,"Z":13,"\u0000":14}`, "it", 1, 1,
		`{"":9,"\u0000":14,"Z":13,"aud":"a","exo":8,"exp":2,"exq":7,"ias":6,"iat":1,"iau":5,"isr":4,"iss":"it","isx":3,"nbe":2,"nbf":1,"nbg":1,"é":12,"😀":10,"`+"\uffff"+`":11}`)
	checkMake(t, `{"aud":"a","e":{"iss":1,"exp":[2],"aud":3,"iat":-1,"nbf":null}}`, "it", 1, 1, `{"aud":"a","e":{"aud":3,"exp":[2],"iat":-1,"iss":1,"nbf":null},"exp":2,"iat":1,"iss":"it","nbf":1}`)
}

func TestD3Iss(t *testing.T) {
	for iss, form := range map[string]string{
		"":                 `""`,
		"a/b":              `"a/b"`,
		"\"\\\b\f\n\r\t":   `"\"\\\b\f\n\r\t"`,
		"\x00\x01\x1f\x7f": `"\u0000\u0001\u001f` + "\x7f" + `"`,
		"é€😀\U0010FFFF":    "\"é€😀\U0010FFFF\"",
		`","x":1,"y":"`:    `"\",\"x\":1,\"y\":\""`,
		"\uFFFD\u2028":     "\"\uFFFD\u2028\"",
	} {
		checkMake(t, me, iss, 5, 10, `{"aud":"me","exp":15,"iat":5,"iss":`+form+`,"nbf":5}`)
		text, _, _ := claims.Make(me, iss, 5, 10)
		checkRead(t, text, api.Claims{Iss: iss, Aud: []string{"me"}, Iat: 5, Nbf: 5, Exp: 15})
	}
	for _, iss := range []string{"\xff", "a\x80", "\xc3", "\xc3\x28", "\xc0\x80", "\xe0\x9f\xbf", "\xed\xa0\x80", "\xed\xbf\xbf", "\xf0\x8f\xbf\xbf", "\xf4\x90\x80\x80", "\xf5\x80\x80\x80", "é\xe2\x82", strings.Repeat("x", maxText) + "\xff"} {
		checkNoMakeAt(t, me, iss, 5, 10, api.ErrText, 0)
	}
}

func TestD3NotJSON(t *testing.T) {
	for _, c := range notJSON {
		checkNoMake(t, c.marked, "it", 5, 10, c.want)
		checkNoMake(t, c.marked, "\xff", -1, 0, c.want)
	}
	blanks := strings.Repeat(" ", maxText-len(me))
	checkMake(t, me+blanks, "it", 5, 10, `{"aud":"me","exp":15,"iat":5,"iss":"it","nbf":5}`)
	checkNoMakeAt(t, me+blanks+" ", "it", 5, 10, api.ErrLong, 0)
}

func TestD3NoObject(t *testing.T) {
	for _, text := range noObjects {
		checkNoMake(t, "¤"+text, "it", 5, 10, api.ErrKind)
		checkNoMake(t, " \r\n¤"+text, "\xff", -1, 0, api.ErrKind)
	}
}

func TestD3Twice(t *testing.T) {
	for _, name := range []string{"iss", "iat", "nbf", "exp", `\u0069ss`, `ex\u0070`} {
		for _, value := range []string{"null", "true", "1", "-1", `"it"`, "[]", "{}"} {
			checkNoMake(t, `{"`+name+`": ¤`+value+`}`, "it", 5, 10, api.ErrTwice)
			checkNoMake(t, `{"aud":"me","`+name+`":¤`+value+`}`, "it", 5, 10, api.ErrTwice)
			checkNoMake(t, `{"`+name+`":¤`+value+`,"aud":1,"nbff":1}`, "\xff", -1, 0, api.ErrTwice)
			checkNoMake(t, `{"aud":¤1,"`+name+`":`+value+`}`, "\xff", -1, 0, api.ErrKind)
		}
	}
	checkNoMake(t, `{"x":1,"nbf":¤1,"exp":2,"iat":3,"iss":4}`, "it", 5, 10, api.ErrTwice)
}

func TestD3Aud(t *testing.T) {
	for _, aud := range noAuds {
		checkNoMake(t, `{"aud":`+aud+`}`, "it", 5, 10, api.ErrKind)
		checkNoMake(t, `{"x":[],"aud": `+aud+`,"exp":1}`, "\xff", -1, 0, api.ErrKind)
	}
	for _, text := range []string{"{}", `{"b":1}`, `{"Aud":"me"}`, `{"aud ":"me"}`, `{"x":{"aud":"me"}}`, `{"":"aud"}`} {
		checkNoMakeAt(t, text, "it", 5, 10, api.ErrNone, 0)
		checkNoMakeAt(t, " "+text, "\xff", -1, 0, api.ErrNone, 0)
	}
}

func TestD3Range(t *testing.T) {
	for _, c := range []struct{ at, ttl int }{
		{-1, 1}, {-1, 10}, {math.MinInt, 1}, {math.MinInt, math.MinInt}, {-5, maxInt}, {-1, math.MaxInt},
		{0, 0}, {5, 0}, {5, -1}, {5, math.MinInt}, {maxInt, -1}, {maxInt, 0}, {math.MaxInt, math.MinInt},
		{maxInt, 1}, {maxInt - 1, 2}, {1, maxInt}, {0, maxInt + 1}, {maxInt + 1, 1}, {maxInt, maxInt},
		{math.MaxInt, 1}, {1, math.MaxInt}, {math.MaxInt, math.MaxInt}, {0, math.MaxInt}, {math.MaxInt, math.MaxInt - 1},
	} {
		checkNoMakeAt(t, me, "it", c.at, c.ttl, api.ErrRange, 0)
		checkNoMakeAt(t, me, "\xff", c.at, c.ttl, api.ErrText, 0)
		checkNoMakeAt(t, me, strings.Repeat("x", maxText), c.at, c.ttl, api.ErrRange, 0)
	}
	for _, c := range []struct{ at, ttl int }{{0, 1}, {0, maxInt}, {maxInt - 1, 1}, {1, maxInt - 1}, {5, maxInt - 5}, {maxInt / 2, maxInt / 2}} {
		at, exp := strconv.Itoa(c.at), strconv.Itoa(c.at+c.ttl)
		checkMake(t, me, "it", c.at, c.ttl, `{"aud":"me","exp":`+exp+`,"iat":`+at+`,"iss":"it","nbf":`+at+`}`)
	}
}

// A form of just MaxText bytes, and one more, whether the text, the iss or a number makes it so long.
func TestD3Long(t *testing.T) {
	short := len(`{"aud":"","exp":15,"iat":5,"iss":"it","nbf":5}`)
	for n := maxText - 3; n <= maxText+3; n++ {
		a := strings.Repeat("a", n-short)
		checkLong(t, n, `{"aud":"`+a+`"}`, "it", 5, 10, `{"aud":"`+a+`","exp":15,"iat":5,"iss":"it","nbf":5}`)
		checkLong(t, n, `{"aud":""}`, "it"+a, 5, 10, `{"aud":"","exp":15,"iat":5,"iss":"it`+a+`","nbf":5}`)
		checkLong(t, n+1, `{"aud":"`+a+`"}`, "it", 5, 100, `{"aud":"`+a+`","exp":105,"iat":5,"iss":"it","nbf":5}`)
		checkLong(t, n+1, `{"aud":"`+a+`"}`, `i"`, 5, 10, `{"aud":"`+a+`","exp":15,"iat":5,"iss":"i\"","nbf":5}`)
		checkLong(t, n+5, `{"aud":"`+a+`"}`, "i\x00", 5, 10, `{"aud":"`+a+`","exp":15,"iat":5,"iss":"i\u0000","nbf":5}`)
	}
	// What is long because of blanks and escapes alone is not.
	checkMake(t, `{"aud":"`+strings.Repeat(`\u0061`, 10000)+`"}`, "it", 5, 10, `{"aud":"`+strings.Repeat("a", 10000)+`","exp":15,"iat":5,"iss":"it","nbf":5}`)
	checkNoMakeAt(t, `{"aud":"`+strings.Repeat("a", maxText-10)+`"}`, "it", 5, 10, api.ErrLong, 0)
	checkNoMakeAt(t, me, strings.Repeat("x", 1000000), 5, 10, api.ErrLong, 0)
	checkNoMakeAt(t, me, strings.Repeat("\x00", maxText/6), 5, 10, api.ErrLong, 0)
}

func checkLong(t *testing.T, n int, text, iss string, at, ttl int, want string) {
	t.Helper()
	if len(want) != n {
		t.Errorf("the form has %d bytes, not %d", len(want), n)
	}
	if n > maxText {
		checkNoMakeAt(t, text, iss, at, ttl, api.ErrLong, 0)
	} else {
		checkMake(t, text, iss, at, ttl, want)
	}
}

// Where several errors apply, the one named first.
func TestD3First(t *testing.T) {
	long := strings.Repeat("a", maxText)
	checkNoMakeAt(t, "{}", "\xff", -1, 0, api.ErrNone, 0)
	checkNoMakeAt(t, me, long+"\xff", -1, 0, api.ErrText, 0)
	checkNoMakeAt(t, me, long, -1, 1, api.ErrRange, 0)
	checkNoMakeAt(t, me, long, 0, 1, api.ErrLong, 0)
}

// What was made is in its one form, tells what it was made of, and holds from at on and until ttl has gone.
func TestD3AtRandom(t *testing.T) {
	r := rand.New(rand.NewSource(4))
	for range 2000 {
		auds := []string{"me", "you", "é\n", ""}[:1+r.Intn(4)]
		list, _ := stdjson.Marshal(auds)
		iss := []string{"it", "é", "a\"b", "", "\u0001"}[r.Intn(5)]
		at, ttl := r.Intn(1000), 1+r.Intn(1000)
		text := `{"x":` + strconv.Itoa(r.Intn(9)) + `, "aud":` + string(list) + `, "exq":[{}]}`
		made, e, place := claims.Make(text, iss, at, ttl)
		if form, _, _ := json.Print(made); e != api.OK || place != 0 || form != made {
			t.Fatalf("Make(%q, %q, %d, %d) = %q, %d, %d", text, iss, at, ttl, made, e, place)
		}
		checkRead(t, made, api.Claims{Iss: iss, Aud: auds, Iat: at, Nbf: at, Exp: at + ttl})
		checkOthers(t, text, made)
		c, _, _ := claims.Read(made)
		check(t, c, at, 0, iss, "me", api.OK)
		check(t, c, at+ttl-1, 0, iss, "me", api.OK)
		check(t, c, at+ttl, 0, iss, "me", api.ErrLate)
		if at > 0 {
			check(t, c, at-1, 0, iss, "me", api.ErrEarly)
		}
	}
}

// checkOthers asks the library whether all that a text says is said by what was made of it, and four members more.
func checkOthers(t *testing.T, text, made string) {
	t.Helper()
	var before, after map[string]any
	if stdjson.Unmarshal([]byte(text), &before) != nil || stdjson.Unmarshal([]byte(made), &after) != nil {
		t.Fatalf("no JSON: %q or %q", text, made)
	}
	for _, name := range []string{"iss", "iat", "nbf", "exp"} {
		delete(after, name)
	}
	if !reflect.DeepEqual(before, after) {
		t.Errorf("%q was made of %q", made, text)
	}
}
