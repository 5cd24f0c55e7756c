package door_test

import (
	"math/rand"
	"slices"
	"strconv"
	"strings"
	"testing"

	"notary/api"
	"notary/issuer"
)

// newIssuer tells an issuer whose clock stands at now.
func newIssuer(t *testing.T, iss string, ttl, now int) *issuer.Issuer {
	t.Helper()
	s, e := issuer.New(iss, ttl)
	if e != api.OK {
		t.Fatalf("issuer.New(%q, %d) = %d", iss, ttl, e)
	}
	if got, e := s.Tick(now); got != now || e != api.OK {
		t.Fatalf("Tick(%d) = %d, %d", now, got, e)
	}
	return s
}

func rotate(t *testing.T, s *issuer.Issuer, alg int, key string) string {
	t.Helper()
	kid, e := s.Rotate(alg, key)
	if e != api.OK {
		t.Fatalf("Rotate(%d, %q) = %d", alg, key, e)
	}
	return kid
}

// issue tells a token for me, and the claims in it.
func issue(t *testing.T, s *issuer.Issuer, now, ttl int) (string, string) {
	t.Helper()
	text, e, _ := s.Issue(`{"aud":"me"}`)
	if e != api.OK {
		t.Fatalf("Issue = %d", e)
	}
	return text, strings.Replace(bodyOf("it", "me", now, now+ttl), `"iat":0`, `"iat":`+strconv.Itoa(now), 1)
}

// What is issued is let by just as long as it holds.
func TestBothHolds(t *testing.T) {
	for _, alg := range algs {
		for _, c := range []struct{ at, ttl, leeway int }{{0, 1, 0}, {7, 5, 0}, {7, 5, 3}, {3, 10, 20}} {
			s := newIssuer(t, "it", c.ttl, c.at)
			kid := rotate(t, s, alg, bytesOf(alg/8))
			text, body := issue(t, s, c.at, c.ttl)
			d := openDoor(t, c.leeway)
			checkNoVerify(t, d, text, api.ErrNone, 0)
			checkLoad(t, d, s.Export())
			for now := range 50 {
				if now < c.at-c.leeway {
					checkNoVerify(t, d, text, api.ErrEarly, 0)
				} else if now >= c.at+c.ttl+c.leeway {
					checkNoVerify(t, d, text, api.ErrLate, 0)
				} else {
					checkVerify(t, d, text, kid, body)
				}
				checkTick(t, d, 1, now+1)
			}
		}
	}
}

// A key that the issuer let go is let by until the door loads what is left.
func TestBothRetire(t *testing.T) {
	s := newIssuer(t, "it", 10, 0)
	rotate(t, s, 256, bytesOf(32))
	old, oldBody := issue(t, s, 0, 10)
	rotate(t, s, 512, bytesOf(64))
	fresh, freshBody := issue(t, s, 0, 10)
	d := openDoor(t, 0)
	checkLoad(t, d, s.Export())
	checkVerify(t, d, old, "k1", oldBody)
	checkVerify(t, d, fresh, "k2", freshBody)
	s.Retire("k1")
	checkVerify(t, d, old, "k1", oldBody)
	checkLoad(t, d, s.Export())
	checkNoVerify(t, d, old, api.ErrNone, 0)
	checkVerify(t, d, fresh, "k2", freshBody)
	checkAllow(t, d, 512, false)
	checkNoVerify(t, d, fresh, api.ErrAlg, 0)
}

// Another issuer's token is refused, though its key has the same kid.
func TestBothOther(t *testing.T) {
	s, other := newIssuer(t, "it", 10, 0), newIssuer(t, "it", 10, 0)
	rotate(t, s, 256, bytesOf(32))
	rotate(t, other, 256, bytesOf(33))
	text, body := issue(t, s, 0, 10)
	d := openDoor(t, 0)
	checkLoad(t, d, other.Export())
	checkNoVerify(t, d, text, api.ErrSign, 0)
	checkLoad(t, d, s.Export())
	checkVerify(t, d, text, "k1", body)
	he := newIssuer(t, "he", 10, 0)
	rotate(t, he, 256, bytesOf(32))
	his, _, _ := he.Issue(`{"aud":"me"}`)
	checkNoVerify(t, d, his, api.ErrIss, 0)
	forYou, _, _ := s.Issue(`{"aud":"you"}`)
	checkNoVerify(t, d, forYou, api.ErrAud, 0)
}

// As many keys as there may be, all exported and loaded.
func TestBothMany(t *testing.T) {
	s := newIssuer(t, "it", 10, 0)
	d := openDoor(t, 0)
	texts := map[string]string{}
	for n := range maxKeys {
		kid := rotate(t, s, algs[n%3], bytesOf(64+n))
		texts[kid], _ = issue(t, s, 0, 10)
	}
	checkLoad(t, d, s.Export())
	_, body := issue(t, s, 0, 10)
	for kid, text := range texts {
		checkVerify(t, d, text, kid, body)
	}
}

// lookedAt tells by the document's words what a door answers of a token that can be opened.
type lookedAt struct {
	keys        []api.Key
	allowed     []int
	now, leeway int
}

func (l lookedAt) wanted(k api.Key, iss, aud string, nbf, exp int) api.Errno {
	n := slices.IndexFunc(l.keys, func(own api.Key) bool { return own.Kid == k.Kid })
	switch {
	case n < 0:
		return api.ErrNone
	case l.keys[n].Alg != k.Alg || !slices.Contains(l.allowed, k.Alg):
		return api.ErrAlg
	case l.keys[n].Key != k.Key:
		return api.ErrSign
	case iss != "it":
		return api.ErrIss
	case aud != "me":
		return api.ErrAud
	case l.now < nbf-l.leeway:
		return api.ErrEarly
	case l.now >= exp+l.leeway:
		return api.ErrLate
	}
	return api.OK
}

// Doors and tokens at random; every answer comes up.
func TestR3AtRandom(t *testing.T) {
	r := rand.New(rand.NewSource(9))
	anyKey := func() api.Key {
		return api.Key{Alg: algs[r.Intn(3)], Kid: string(rune('a' + r.Intn(4))), Key: bytesOf(64 + r.Intn(2))}
	}
	seen := map[api.Errno]int{}
	for range 800 {
		l := lookedAt{now: r.Intn(30), leeway: r.Intn(5)}
		d := newDoor(t, "it", "me", l.leeway)
		checkTick(t, d, l.now, l.now)
		for _, alg := range algs {
			if r.Intn(4) > 0 {
				l.allowed = append(l.allowed, alg)
				checkAllow(t, d, alg, true)
			}
		}
		for _, kid := range []string{"a", "b", "c", "d"}[r.Intn(3):] {
			k := anyKey()
			k.Kid = kid
			l.keys = append(l.keys, k)
		}
		checkLoad(t, d, setOf(l.keys...))
		for range 10 {
			k := anyKey()
			if r.Intn(4) > 0 {
				k = l.keys[r.Intn(len(l.keys))]
			}
			iss, aud := []string{"it", "it", "it", "he"}[r.Intn(4)], []string{"me", "me", "me", "you"}[r.Intn(4)]
			nbf, exp := r.Intn(30), r.Intn(40)
			want := l.wanted(k, iss, aud, nbf, exp)
			checkIs(t, d, k, bodyOf(iss, aud, nbf, exp), want)
			seen[want]++
		}
	}
	for _, e := range []api.Errno{api.OK, api.ErrNone, api.ErrAlg, api.ErrSign, api.ErrIss, api.ErrAud, api.ErrEarly, api.ErrLate} {
		if seen[e] == 0 {
			t.Errorf("the answer %d never came up", e)
		}
	}
}
