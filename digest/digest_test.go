package digest_test

import (
	"crypto/hmac"
	"crypto/sha256"
	"crypto/sha512"
	"encoding/hex"
	"hash"
	"math"
	"strings"
	"testing"

	"notary/digest"
)

var algs = []int{256, 384, 512}

var noAlgs = []int{math.MinInt, -512, -256, -1, 0, 1, 8, 32, 48, 64, 128, 224, 255, 257, 383, 385, 511, 513, 768, 1024, 256 + 1<<32, 512 + 1<<32, math.MaxInt}

// Lengths about which the ending of a sum goes over into one more block.
var edges = []int{0, 1, 2, 3, 31, 32, 33, 54, 55, 56, 57, 62, 63, 64, 65, 110, 111, 112, 113, 118, 119, 120, 121, 126, 127, 128, 129, 183, 184, 191, 192, 239, 240, 255, 256, 257, 1000, 8191, 8192, 65535, 65536}

// library tells who else reckons the sums of an alg.
func library(alg int) func() hash.Hash {
	switch alg {
	case 256:
		return sha256.New
	case 384:
		return sha512.New384
	}
	return sha512.New
}

func librarySum(alg int, data string) string {
	h := library(alg)()
	h.Write([]byte(data))
	return string(h.Sum(nil))
}

func libraryMac(alg int, key, data string) string {
	h := hmac.New(library(alg), []byte(key))
	h.Write([]byte(data))
	return string(h.Sum(nil))
}

// mixed tells a text of length n in which all bytes come, no block as the one ahead of it.
func mixed(n int) string {
	out := make([]byte, n)
	state := uint32(n) + 1
	for i := range out {
		state = state*1664525 + 1013904223
		out[i] = byte(state >> 24)
	}
	return string(out)
}

// texts tells texts of length n: all bytes alike, and mixed.
func texts(n int) []string {
	return []string{
		strings.Repeat("a", n),
		strings.Repeat("\x00", n),
		strings.Repeat("\x80", n),
		strings.Repeat("\xff", n),
		mixed(n),
	}
}

func checkSum(t *testing.T, alg int, data string) {
	t.Helper()
	got, want := digest.Sum(alg, data), librarySum(alg, data)
	if got != want {
		t.Errorf("Sum(%d, %d bytes) = %x, want %x", alg, len(data), got, want)
	}
}

func checkMac(t *testing.T, alg int, key, data string) {
	t.Helper()
	got, want := digest.Mac(alg, key, data), libraryMac(alg, key, data)
	if got != want {
		t.Errorf("Mac(%d, key of %d, %d bytes) = %x, want %x", alg, len(key), len(data), got, want)
	}
}

func TestG1Size(t *testing.T) {
	for alg, want := range map[int]int{256: 32, 384: 48, 512: 64} {
		if got := digest.Size(alg); got != want {
			t.Errorf("Size(%d) = %d, want %d", alg, got, want)
		}
		if got := len(digest.Sum(alg, "abc")); got != want {
			t.Errorf("Sum(%d) has %d bytes, want %d", alg, got, want)
		}
		if got := len(digest.Mac(alg, "k", "abc")); got != want {
			t.Errorf("Mac(%d) has %d bytes, want %d", alg, got, want)
		}
	}
}

func TestG1NoAlg(t *testing.T) {
	for _, alg := range noAlgs {
		if got := digest.Size(alg); got != 0 {
			t.Errorf("Size(%d) = %d, want 0", alg, got)
		}
		for _, n := range []int{0, 1, 64, 129, 200} {
			text := mixed(n)
			if got := digest.Sum(alg, text); got != "" {
				t.Errorf("Sum(%d, %d bytes) = %x, want nothing", alg, n, got)
			}
			if got := digest.Mac(alg, text, text); got != "" {
				t.Errorf("Mac(%d, %d bytes) = %x, want nothing", alg, n, got)
			}
		}
	}
}

// Sums that are written out here do not hang on the library's.
func TestSumsWrittenOut(t *testing.T) {
	const two = "abcdbcdecdefdefgefghfghighijhijkijkljklmklmnlmnomnopnopq"
	const four = "abcdefghbcdefghicdefghijdefghijkefghijklfghijklmghijklmnhijklmnoijklmnopjklmnopqklmnopqrlmnopqrsmnopqrstnopqrstu"
	for _, c := range []struct {
		alg        int
		data, want string
	}{
		{256, "", "e3b0c44298fc1c149afbf4c8996fb92427ae41e4649b934ca495991b7852b855"},
		{256, "abc", "ba7816bf8f01cfea414140de5dae2223b00361a396177a9cb410ff61f20015ad"},
		{256, two, "248d6a61d20638b8e5c026930c3e6039a33ce45964ff2167f6ecedd419db06c1"},
		{384, "", "38b060a751ac96384cd9327eb1b1e36a21fdb71114be07434c0cc7bf63f6e1da274edebfe76f65fbd51ad2f14898b95b"},
		{384, "abc", "cb00753f45a35e8bb5a03d699ac65007272c32ab0eded1631a8b605a43ff5bed8086072ba1e7cc2358baeca134c825a7"},
		{384, four, "09330c33f71147e83d192fc782cd1b4753111b173b3b05d22fa08086e3b0f712fcc7c71a557e2db966c3e9fa91746039"},
		{512, "", "cf83e1357eefb8bdf1542850d66d8007d620e4050b5715dc83f4a921d36ce9ce47d0d13c5d85f2b0ff8318d2877eec2f63b931bd47417a81a538327af927da3e"},
		{512, "abc", "ddaf35a193617abacc417349ae20413112e6fa4e89a97ea20a9eeee64b55d39a2192992a274fc1a836ba3c23a3feebbd454d4423643ce80e2a9ac94fa54ca49f"},
		{512, four, "8e959b75dae313da8cf4f72814fc143f8f7779c6eb9f7fa17299aeadb6889018501d289e4900f7e4331b99dec4b5433ac7d329eeb6dd26545e96e55b874be909"},
	} {
		if got := hex.EncodeToString([]byte(digest.Sum(c.alg, c.data))); got != c.want {
			t.Errorf("Sum(%d, %q) = %s, want %s", c.alg, c.data, got, c.want)
		}
	}
}

func testSums(t *testing.T, alg int) {
	for _, n := range edges {
		for _, text := range texts(n) {
			checkSum(t, alg, text)
		}
	}
	for n := range 400 {
		checkSum(t, alg, mixed(n))
	}
	// Above 2^16, and a number of bits that takes four bytes.
	checkSum(t, alg, mixed(1<<21+77))
}

func TestG2Sum256(t *testing.T) { testSums(t, 256) }

func TestG3Sum512(t *testing.T) { testSums(t, 512) }

func TestG4Sum384(t *testing.T) { testSums(t, 384) }

// A sum of 384 starts elsewhere: it is no piece of that of 512.
func TestG4IsNoPieceOf512(t *testing.T) {
	if strings.HasPrefix(digest.Sum(512, "abc"), digest.Sum(384, "abc")) {
		t.Error("Sum(384) is a piece of Sum(512)")
	}
}

func TestG5Mac(t *testing.T) {
	keyLengths := []int{0, 1, 31, 32, 48, 63, 64, 65, 66, 100, 127, 128, 129, 130, 200, 256, 1000}
	dataLengths := []int{0, 1, 3, 47, 48, 55, 56, 63, 64, 65, 111, 112, 119, 120, 127, 128, 129, 1000}
	for _, alg := range algs {
		for _, k := range keyLengths {
			for _, n := range dataLengths {
				checkMac(t, alg, mixed(k), mixed(n))
			}
			checkMac(t, alg, strings.Repeat("\x00", k), "x")
			checkMac(t, alg, strings.Repeat("\xff", k), "x")
		}
	}
}

// Macs that are written out (RFC 4231, the second case) do not hang on the library's.
func TestG5MacWrittenOut(t *testing.T) {
	const key, data = "Jefe", "what do ya want for nothing?"
	for alg, want := range map[int]string{
		256: "5bdcc146bf60754e6a042426089575c75a003f089d2739839dec58b964ec3843",
		384: "af45d2e376484031617f78d2b58a6b1b9c7ef464f5a01b47e42ec3736322445e8e2240ca5e69e2c78b3239ecfab21649",
		512: "164b7a7bfcf819e2e395fbe73b56e0a387bd64222e831fd610270cd7ea2505549758bf75c05a994a6d034f65f8f0e6fdcaeab1a34d4a6b4b636e070a38bce737",
	} {
		if got := hex.EncodeToString([]byte(digest.Mac(alg, key, data))); got != want {
			t.Errorf("Mac(%d) = %s, want %s", alg, got, want)
		}
	}
}

// A key of more than B bytes is its sum; one of just B stays, and bytes 0 behind a short one change nothing.
func TestG5MacKeyAtB(t *testing.T) {
	for _, alg := range algs {
		b := library(alg)().BlockSize()
		long, just := mixed(b+1), mixed(b)
		if digest.Mac(alg, long, "x") != digest.Mac(alg, digest.Sum(alg, long), "x") {
			t.Errorf("Mac(%d): a key of B + 1 bytes is not its sum", alg)
		}
		if digest.Mac(alg, just, "x") == digest.Mac(alg, digest.Sum(alg, just), "x") {
			t.Errorf("Mac(%d): a key of B bytes is its sum", alg)
		}
		if digest.Mac(alg, "k", "x") != digest.Mac(alg, "k"+strings.Repeat("\x00", b-1), "x") {
			t.Errorf("Mac(%d): a short key is not filled up with bytes 0", alg)
		}
	}
}

func TestG6Same(t *testing.T) {
	for _, n := range []int{1, 2, 3, 32, 48, 64, 1000} {
		a := mixed(n)
		if !digest.Same(a, strings.Clone(a)) {
			t.Errorf("%d bytes are not the same as themselves", n)
		}
		for at := range n {
			for bit := range 8 {
				b := []byte(a)
				b[at] ^= 1 << bit
				if digest.Same(a, string(b)) || digest.Same(string(b), a) {
					t.Errorf("%d bytes are the same with bit %d of byte %d changed", n, bit, at)
				}
			}
		}
		for _, b := range []string{"", a[:n-1], a[1:], a + "\x00", "\x00" + a, a + a} {
			if digest.Same(a, b) || digest.Same(b, a) {
				t.Errorf("%d bytes are the same as %d bytes", n, len(b))
			}
		}
	}
	for _, c := range []struct {
		a, b string
		want bool
	}{
		{"", "", true},
		{"", "\x00", false},
		{"\x00", "", false},
		{"\x00", "\x00", true},
		{"\x00", "\x00\x00", false},
		{"ab", "ab", true},
		{"ab", "ba", false},
		{"ab", "AB", false},
		{"\xff\xfe", "\xff\xfe", true},
		{"\xff\xfe", "\xfe\xff", false},
	} {
		if got := digest.Same(c.a, c.b); got != c.want {
			t.Errorf("Same(%q, %q) = %t, want %t", c.a, c.b, got, c.want)
		}
	}
}

// What a call answers hangs on its arguments alone.
func TestAnswersStay(t *testing.T) {
	for _, alg := range algs {
		sum, mac := digest.Sum(alg, "abc"), digest.Mac(alg, "k", "abc")
		for _, other := range algs {
			digest.Sum(other, mixed(300))
			digest.Mac(other, mixed(300), mixed(300))
		}
		if digest.Sum(alg, "abc") != sum || digest.Mac(alg, "k", "abc") != mac {
			t.Errorf("an answer of %d changed after other calls", alg)
		}
	}
}
