package door_test

import (
	"math"
	"math/rand"
	"strconv"
	"strings"
	"testing"

	"notary/api"
)

func TestR2Tick(t *testing.T) {
	d := newDoor(t, "it", "me", 0)
	checkTick(t, d, 0, 0)
	checkTick(t, d, 5, 5)
	for _, n := range []int{-1, -5, -6, math.MinInt} {
		checkNoTick(t, d, n)
		checkTick(t, d, 0, 5)
	}
	checkTick(t, d, 1, 6)
	checkTick(t, d, maxInt-7, maxInt-1)
	checkTick(t, d, 1, maxInt)
	checkTick(t, d, 1, maxInt)
	checkTick(t, d, math.MaxInt, maxInt)
	checkNoTick(t, d, -1)
	checkTick(t, d, 0, maxInt)
	for _, n := range []int{maxInt, maxInt + 1, math.MaxInt} {
		d := newDoor(t, "it", "me", 0)
		checkTick(t, d, n, maxInt)
		d = newDoor(t, "it", "me", 0)
		checkTick(t, d, 1, 1)
		checkTick(t, d, n, maxInt)
	}
}

// oneOfEach tells a key for each alg.
func oneOfEach() []api.Key {
	var l []api.Key
	for _, alg := range algs {
		l = append(l, keyOf(alg, "k"+strconv.Itoa(alg)))
	}
	return l
}

// Each alg is allowed by itself, whatever is said of the others, and what was said last holds.
func TestR2Allow(t *testing.T) {
	d := newDoor(t, "it", "me", 0)
	l := oneOfEach()
	checkLoad(t, d, setOf(l...))
	allowed := map[int]bool{}
	r := rand.New(rand.NewSource(3))
	for range 300 {
		alg, yes := algs[r.Intn(3)], r.Intn(2) == 0
		checkAllow(t, d, alg, yes)
		allowed[alg] = yes
		for _, k := range l {
			want := api.ErrAlg
			if allowed[k.Alg] {
				want = api.OK
			}
			checkIs(t, d, k, always(), want)
		}
	}
}

func TestR2AllowTwice(t *testing.T) {
	k := keyOf(384, "a")
	d := newDoor(t, "it", "me", 0)
	checkLoad(t, d, setOf(k))
	for _, yes := range []bool{false, true, true, false, false, true} {
		checkAllow(t, d, 384, yes)
		want := api.ErrAlg
		if yes {
			want = api.OK
		}
		checkIs(t, d, k, always(), want)
	}
}

func TestR2NoAlg(t *testing.T) {
	open, shut := openDoor(t, 0, oneOfEach()...), newDoor(t, "it", "me", 0)
	checkLoad(t, shut, setOf(oneOfEach()...))
	for _, alg := range append([]int{math.MinInt, math.MaxInt}, noAlgs...) {
		for _, yes := range []bool{true, false} {
			checkNoAllow(t, open, alg, yes)
			checkNoAllow(t, shut, alg, yes)
		}
	}
	for _, k := range oneOfEach() {
		checkIs(t, open, k, always(), api.OK)
		checkIs(t, shut, k, always(), api.ErrAlg)
	}
}

// A set takes the place of all that was there; none of the old keys is left.
func TestR2Load(t *testing.T) {
	a, b, c := keyOf(256, "a"), keyOf(384, "b"), keyOf(512, "c")
	newA := api.Key{Alg: 512, Kid: "a", Key: bytesOf(100)}
	d := openDoor(t, 0, a, b)
	checkIs(t, d, a, always(), api.OK)
	checkIs(t, d, b, always(), api.OK)
	checkIs(t, d, c, always(), api.ErrNone)
	checkLoad(t, d, " "+strings.ReplaceAll(setOf(b, c), ",", " , ")+"\n")
	checkIs(t, d, a, always(), api.ErrNone)
	checkIs(t, d, b, always(), api.OK)
	checkIs(t, d, c, always(), api.OK)
	checkLoad(t, d, setOf(newA))
	checkIs(t, d, a, always(), api.ErrAlg)
	checkIs(t, d, newA, always(), api.OK)
	checkIs(t, d, b, always(), api.ErrNone)
	checkLoad(t, d, `{"keys":[]}`)
	for _, k := range []api.Key{a, b, c, newA} {
		checkIs(t, d, k, always(), api.ErrNone)
	}
	checkLoad(t, d, setOf(a))
	checkIs(t, d, a, always(), api.OK)
}

// What keys.Parse refuses is refused with its place, and the door has the keys that it had.
func TestR2NoLoad(t *testing.T) {
	a, b := keyOf(256, "a"), keyOf(512, "b")
	d := openDoor(t, 0, a)
	one := strings.TrimSuffix(strings.TrimPrefix(setOf(b), `{"keys":[`), `]}`)
	for _, c := range []struct {
		marked string
		want   api.Errno
	}{
		{"¤", api.ErrText},
		{setOf(b) + "¤]", api.ErrText},
		{`{"keys":[` + one + `,¤]}`, api.ErrText},
		{strings.Repeat(" ", maxText+1), api.ErrLong},
		{`{"keys":[` + one + `,¤9007199254740992]}`, api.ErrRange},
		{`{"keys":[` + one + `],¤"keys":[]}`, api.ErrTwice},
		{`{"keys":` + strings.Repeat("[", 31) + "¤[", api.ErrDeep},
		{" ¤[]", api.ErrKind},
		{`{"keys":¤{}}`, api.ErrKind},
		{`{"keys":[` + one + `],"x":¤1}`, api.ErrKind},
		{`{"keys":[` + one + `, ¤null]}`, api.ErrKind},
		{`{"keys":[` + one + `,{"x":¤1}]}`, api.ErrKind},
		{`{"keys":[` + one + `,{"alg":¤"HS257"}]}`, api.ErrAlg},
		{`{"keys":[` + one + `,{"kid":¤""}]}`, api.ErrKid},
		{`{"keys":[` + one + `,{"k":¤"="}]}`, api.ErrText},
		{`{"keys":[` + one + `,{"kty":¤"RSA"}]}`, api.ErrText},
		{"{}", api.ErrNone},
		{`{"keys":[` + one + `,¤{}]}`, api.ErrNone},
		{`{"keys":[` + one + `,¤` + strings.Replace(strings.Replace(one, `"b"`, `"c"`, 1), encode(b.Key), encode(bytesOf(63)), 1) + `]}`, api.ErrKey},
		{`{"keys":[` + one + `,¤` + one + `]}`, api.ErrTwice},
		{`{"keys":[` + strings.Repeat("{},", maxKeys) + `¤{}]}`, api.ErrMany},
	} {
		checkNoLoad(t, d, c.marked, c.want)
		checkIs(t, d, a, always(), api.OK)
		checkIs(t, d, b, always(), api.ErrNone)
	}
}

func TestR2LoadMany(t *testing.T) {
	var l []api.Key
	for n := range maxKeys {
		alg := algs[n%3]
		l = append(l, api.Key{Alg: alg, Kid: strings.Repeat("k", maxKid-2) + strconv.Itoa(10+n), Key: bytesOf(maxKey - n)})
	}
	d := openDoor(t, 0, l...)
	for _, k := range l {
		checkIs(t, d, k, always(), api.OK)
	}
	more := append(l, keyOf(256, "one"))
	if e, _ := d.Load(setOf(more...)); e != api.ErrMany {
		t.Errorf("Load of %d keys = %d", len(more), e)
	}
	for _, k := range l {
		checkIs(t, d, k, always(), api.OK)
	}
	checkIs(t, d, keyOf(256, "one"), always(), api.ErrNone)
}

// Loading and ticking leave what is allowed as it is, and allowing leaves the keys and the clock.
func TestR2Apart(t *testing.T) {
	a := keyOf(256, "a")
	d := newDoor(t, "it", "me", 0)
	checkAllow(t, d, 256, true)
	checkTick(t, d, 7, 7)
	checkLoad(t, d, setOf(a))
	checkIs(t, d, a, bodyOf("it", "me", 7, 8), api.OK)
	checkAllow(t, d, 512, true)
	checkAllow(t, d, 512, false)
	checkLoad(t, d, setOf(a))
	checkNoTick(t, d, -1)
	checkTick(t, d, 0, 7)
	checkIs(t, d, a, bodyOf("it", "me", 7, 8), api.OK)
	checkIs(t, d, a, bodyOf("it", "me", 8, 9), api.ErrEarly)
	checkIs(t, d, a, bodyOf("it", "me", 6, 7), api.ErrLate)
}
