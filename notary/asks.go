package notary

import (
	"strconv"

	"notary/api"
	"notary/base"
	"notary/json"
)

// done is the answer where nothing is to be told.
const done = "{}"

// ask is something that can be asked: the members of the request, and what is done. What that answers beside an error is not told.
type ask struct {
	members kinds
	do      func(s *Session, request object) (string, error)
}

// asks has what can be asked, by its op.
var asks = map[string]ask{}

func init() {
	asks["tick"] = ask{kinds{"op": json.KindString, "n": json.KindInteger}, (*Session).tick}
	asks["rotate"] = ask{kinds{"op": json.KindString, "alg": json.KindInteger, "key": json.KindString}, (*Session).rotate}
	asks["retire"] = ask{kinds{"op": json.KindString, "kid": json.KindString}, func(s *Session, request object) (string, error) {
		return done, refuse(s.issuer.Retire(request.text("kid")))
	}}
	asks["export"] = ask{kinds{"op": json.KindString}, func(s *Session, _ object) (string, error) {
		return s.issuer.Export(), nil
	}}
	asks["allow"] = ask{kinds{"op": json.KindString, "alg": json.KindInteger, "yes": json.KindTruth}, func(s *Session, request object) (string, error) {
		return done, refuse(s.door.Allow(request.number("alg"), request.truth("yes")))
	}}
	asks["load"] = ask{kinds{"op": json.KindString, "set": json.KindObject}, (*Session).load}
	asks["issue"] = ask{kinds{"op": json.KindString, "claims": json.KindObject}, (*Session).issue}
	asks["verify"] = ask{kinds{"op": json.KindString, "token": json.KindString}, (*Session).verify}
}

func (s *Session) tick(request object) (string, error) {
	n := request.number("n")
	now, number := s.issuer.Tick(n)
	if number != api.OK {
		return "", refusal{number}
	}
	// The door's clock takes what the issuer's took.
	s.door.Tick(n)
	return `{"now":` + strconv.Itoa(now) + `}`, nil
}

func (s *Session) rotate(request object) (string, error) {
	key, number, _ := base.Decode(request.text("key"))
	if number != api.OK {
		return "", refusal{number}
	}
	kid, number := s.issuer.Rotate(request.number("alg"), key)
	return `{"kid":` + json.Quote(kid) + `}`, refuse(number)
}

func (s *Session) load(request object) (string, error) {
	// A place in the one form says nothing of the request.
	number, _ := s.door.Load(request.form("set"))
	return done, refuse(number)
}

func (s *Session) issue(request object) (string, error) {
	token, number, _ := s.issuer.Issue(request.form("claims"))
	return `{"token":` + json.Quote(token) + `}`, refuse(number)
}

// verify lays the claims into the answer as they are. They are in their one form already, and may be as deep as a text may be: read once more, the answer would be too deep.
func (s *Session) verify(request object) (string, error) {
	kid, claims, number, _ := s.door.Verify(request.text("token"))
	return `{"claims":` + claims + `,"kid":` + json.Quote(kid) + `}`, refuse(number)
}
