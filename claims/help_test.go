package claims_test

import (
	"reflect"
	"strings"
	"testing"

	"notary/api"
	"notary/claims"
)

const (
	maxText   = 65536
	maxInt    = 9007199254740991
	maxLeeway = 1000000
)

func checkRead(t *testing.T, text string, want api.Claims) {
	t.Helper()
	if got, e, at := claims.Read(text); !reflect.DeepEqual(got, want) || e != api.OK || at != 0 {
		t.Errorf("Read(%.300q) = %v, %d, %d, want %v, 0, 0", text, got, e, at, want)
	}
}

// unmark tells a text without the mark in it, and where that stood.
func unmark(marked string) (string, int) {
	ahead, behind, _ := strings.Cut(marked, "¤")
	return ahead + behind, len(ahead)
}

// checkNoRead takes the place from a mark that stands there.
func checkNoRead(t *testing.T, marked string, want api.Errno) {
	t.Helper()
	text, place := unmark(marked)
	checkNoReadAt(t, text, want, place)
}

func checkNoReadAt(t *testing.T, text string, want api.Errno, place int) {
	t.Helper()
	if got, e, at := claims.Read(text); !reflect.DeepEqual(got, api.Claims{}) || e != want || at != place {
		t.Errorf("Read(%.300q) = %v, %d, %d, want zeros, %d, %d", text, got, e, at, want, place)
	}
}

func checkMake(t *testing.T, text, iss string, at, ttl int, want string) {
	t.Helper()
	if got, e, place := claims.Make(text, iss, at, ttl); got != want || e != api.OK || place != 0 {
		t.Errorf("Make(%.300q, %.80q, %d, %d) = %.300q, %d, %d, want %.300q, 0, 0", text, iss, at, ttl, got, e, place, want)
	}
}

// checkNoMake takes the place from a mark that stands there.
func checkNoMake(t *testing.T, marked, iss string, at, ttl int, want api.Errno) {
	t.Helper()
	text, place := unmark(marked)
	checkNoMakeAt(t, text, iss, at, ttl, want, place)
}

func checkNoMakeAt(t *testing.T, text, iss string, at, ttl int, want api.Errno, place int) {
	t.Helper()
	if got, e, p := claims.Make(text, iss, at, ttl); got != "" || e != want || p != place {
		t.Errorf("Make(%.300q, %.80q, %d, %d) = %.300q, %d, %d, want \"\", %d, %d", text, iss, at, ttl, got, e, p, want, place)
	}
}

// noObjects are texts that say something else.
var noObjects = []string{"null", "true", "false", "0", "-1", `""`, `"{}"`, "[]", `[{"aud":"me"}]`}

// noAuds are values of an aud that is none; the mark stands where they go wrong.
var noAuds = []string{
	"¤null", "¤true", "¤0", "¤-1", "¤{}", `¤{"a":"b"}`, "¤[]", "¤[ ]",
	"[¤1]", "[¤null]", "[ ¤[]]", `[¤["me"]]`, "[¤{}]", `["me",¤1]`, `["me", "you" , ¤false, 2]`, `[¤[],1]`,
}

// notJSON are texts that json.Parse refuses.
var notJSON = []struct {
	marked string
	want   api.Errno
}{
	{"¤", api.ErrText},
	{"{¤", api.ErrText},
	{`{"aud":[¤,]}`, api.ErrText},
	{`{"aud":[],"iss":1}¤x`, api.ErrText},
	{`[]¤{`, api.ErrText},
	{`{"iss":1,"x":¤9007199254740992}`, api.ErrRange},
	{`{"aud":1,¤"aud":"me"}`, api.ErrTwice},
	{`{"aud":1,¤"\u0061ud":"me"}`, api.ErrTwice},
	{`{"iss":` + strings.Repeat("[", 31) + "¤[", api.ErrDeep},
	{"¤" + strings.Repeat(" ", maxText+1), api.ErrLong},
	{`¤{"aud":"` + strings.Repeat("a", maxText) + `"}`, api.ErrLong},
}
