package hmac_test

import (
	stdhmac "crypto/hmac"
	"crypto/sha256"
	"encoding/hex"
	"math"
	"math/rand/v2"
	"strings"
	"testing"

	"sacristy/hmac"
	"sacristy/sha"
)

const (
	sumSize   = 32
	blockSize = 64
	// edge is a few blocks, so that keys of each number of bytes below, at and above a block are met.
	edge = 3*blockSize + 3
)

// tagOf is the tag, told by the library, that the program itself may not take.
func tagOf(key, s string) string {
	h := stdhmac.New(sha256.New, []byte(key))
	h.Write([]byte(s))
	return string(h.Sum(nil))
}

// newDrawer gives bytes of a seed that stays the same.
func newDrawer() *rand.Rand { return rand.New(rand.NewPCG(6, 256)) }

func drawText(d *rand.Rand, size int) string {
	b := make([]byte, size)
	for k := range b {
		b[k] = byte(d.UintN(256))
	}
	return string(b)
}

func checkSum(t *testing.T, key, s string) {
	t.Helper()
	got := hmac.Sum(key, s)
	if len(got) != sumSize || got != tagOf(key, s) {
		t.Errorf("Sum of %d bytes %.80q under %d bytes %.80q: %x", len(s), s, len(key), key, got)
	}
}

func checkSame(t *testing.T, a, b string) {
	t.Helper()
	if got := hmac.Same(a, b); got != (a == b) {
		t.Errorf("Same(%.80q, %.80q), of %d and %d bytes, is %v", a, b, len(a), len(b), got)
	}
}

func checkKey(t *testing.T, key string, from, to int) {
	t.Helper()
	text := "key" + string([]byte{byte(uint64(from) & 255), byte(uint64(to) & 255)})
	if got := hmac.Key(key, from, to); got != tagOf(key, text) || got != hmac.Sum(key, text) {
		t.Errorf("Key(%.80q, %d, %d) is %x", key, from, to, got)
	}
}

// Hm1: Sum, of keys and texts whose tags are known without any program here (RFC 4231).
func TestSumKnown(t *testing.T) {
	var upTo25 strings.Builder
	for b := range 25 {
		upTo25.WriteByte(byte(b + 1))
	}
	for _, c := range []struct{ key, text, tag string }{
		{strings.Repeat("\x0b", 20), "Hi There", "b0344c61d8db38535ca8afceaf0bf12b881dc200c9833da726e9376c2e32cff7"},
		{"Jefe", "what do ya want for nothing?", "5bdcc146bf60754e6a042426089575c75a003f089d2739839dec58b964ec3843"},
		{strings.Repeat("\xaa", 20), strings.Repeat("\xdd", 50), "773ea91e36800e46854db8ebd09181a72959098b3ef8c122d9635514ced565fe"},
		{upTo25.String(), strings.Repeat("\xcd", 50), "82558a389a443c0ea4cc819899f2083a85f0faa3e578f8077a2e3ff46729665b"},
		{strings.Repeat("\xaa", 131), "Test Using Larger Than Block-Size Key - Hash Key First", "60e431591ee0b67f0d8a26aacbf5b77f8e0bc6213728c5140546040f0ee37f54"},
		{strings.Repeat("\xaa", 131), "This is a test using a larger than block-size key and a larger than block-size data. The key needs to be hashed before being used by the HMAC algorithm.", "9b09ffa71b942fcb27635fbcd5b0e944bfdc63644f0713938a7f51535c3a35e2"},
		{"", "", "b613679a0814d9ec772f95d778c35fc5ff1697c493715653c6c712144292c5ad"},
	} {
		want, err := hex.DecodeString(c.tag)
		if err != nil {
			t.Fatal(err)
		}
		if got := hmac.Sum(c.key, c.text); got != string(want) {
			t.Errorf("Sum of %.40q under %.40q is %x", c.text, c.key, got)
		}
	}
}

// Hm1: Sum, of keys of each number of bytes over some blocks, of bytes that turn to 0, too.
func TestSumKeys(t *testing.T) {
	d := newDrawer()
	for size := range edge {
		for _, b := range []string{"\x00", "\x36", "\x5c", "\x80", "\xff", "k"} {
			checkSum(t, strings.Repeat(b, size), "text")
			checkSum(t, strings.Repeat(b, size), "")
		}
		checkSum(t, drawText(d, size), drawText(d, d.IntN(edge)))
	}
}

// Hm1: Sum, of texts of each number of bytes over some blocks.
func TestSumTexts(t *testing.T) {
	d := newDrawer()
	for size := range edge {
		for _, key := range []string{"", "k", drawText(d, blockSize), drawText(d, blockSize+1)} {
			checkSum(t, key, strings.Repeat("\x00", size))
			checkSum(t, key, drawText(d, size))
		}
	}
}

// Hm1: Sum, of each bit alone in a key of a block.
func TestSumBits(t *testing.T) {
	for bit := range 8 * blockSize {
		key := make([]byte, blockSize)
		key[bit/8] = 1 << (bit % 8)
		checkSum(t, string(key), "text")
	}
}

// Hm1: Sum, of drawn keys and texts, and of long ones.
func TestSumDrawn(t *testing.T) {
	d := newDrawer()
	for range 3000 {
		checkSum(t, drawText(d, d.IntN(edge)), drawText(d, d.IntN(2000)))
	}
	checkSum(t, drawText(d, 1<<20+1), "text")
	checkSum(t, "key", drawText(d, 1<<20+1))
}

// Hm1: where a key ends and a text begins matters.
func TestSumParts(t *testing.T) {
	for _, c := range [][2]string{{"", "ab"}, {"a", "b"}, {"ab", ""}} {
		for _, o := range [][2]string{{"", "ab"}, {"a", "b"}, {"ab", ""}} {
			if c != o && hmac.Sum(c[0], c[1]) == hmac.Sum(o[0], o[1]) {
				t.Errorf("%q and %q have one tag", c, o)
			}
		}
	}
	if hmac.Sum("a", "b") == hmac.Sum("b", "a") {
		t.Error("a key is taken for a text")
	}
}

// Hm1: a call leaves nothing behind that a later one could tell.
func TestSumAgain(t *testing.T) {
	d := newDrawer()
	key, s := drawText(d, 70), drawText(d, 100)
	for range 20 {
		checkSum(t, key, s)
		checkSum(t, drawText(d, d.IntN(edge)), drawText(d, d.IntN(edge)))
	}
}

// Hm1: Same, of short texts, all with all: other numbers of bytes, zeros behind, other bytes ahead and at the end.
func TestSameShort(t *testing.T) {
	texts := []string{"", "\x00", "\x00\x00", "\x01", "\x80", "\xff", "a", "b", "A", "a\x00", "\x00a", "aa", "ab", "ba", "abc", "abd", "bbc", "é", "e"}
	for _, a := range texts {
		for _, b := range texts {
			checkSame(t, a, b)
		}
	}
}

// Hm1: Same, of each two bytes.
func TestSameBytes(t *testing.T) {
	for a := range 256 {
		for b := range 256 {
			checkSame(t, string([]byte{byte(a)}), string([]byte{byte(b)}))
		}
	}
}

// Hm1: Same, of texts that differ at one bit, or are cut at any place, or go on.
func TestSameNearly(t *testing.T) {
	d := newDrawer()
	s := drawText(d, edge)
	checkSame(t, s, strings.Clone(s))
	for k := range len(s) {
		for bit := range 8 {
			other := []byte(s)
			other[k] ^= 1 << bit
			checkSame(t, s, string(other))
			checkSame(t, string(other), s)
		}
		checkSame(t, s, s[:k])
		checkSame(t, s[:k], s)
		checkSame(t, s[:k], s[:k]+"\x00")
		checkSame(t, s[:k]+strings.Repeat("\x00", 256), s[:k])
	}
}

// Hm1: Same, where texts differ at two places by the same bits, and where a text is as much longer as bytes differ.
func TestSameTwoPlaces(t *testing.T) {
	checkSame(t, "abcd", "bacd")
	checkSame(t, "\x01\x01", "\x00\x00")
	checkSame(t, "\x80\x80", "\x00\x00")
	checkSame(t, "\x00", "\x00\x01")
	checkSame(t, "\x01", "\x00\x00")
	for _, more := range []int{255, 256, 257, 65536} {
		checkSame(t, "", strings.Repeat("\x00", more))
		checkSame(t, strings.Repeat("\x00", more), "")
	}
}

// Hm1: Key, of ends from 0 to 255, all of which lead to other keys.
func TestKeyEnds(t *testing.T) {
	for from := range 256 {
		for _, to := range []int{0, 1, 2, from, 127, 128, 255} {
			checkKey(t, "secret", from, to)
			checkKey(t, "secret", to, from)
		}
	}
	seen := map[string][2]int{}
	for from := range 256 {
		for to := range 256 {
			k := hmac.Key("secret", from, to)
			if was, ok := seen[k]; ok {
				t.Fatalf("%d to %d has the key of %v", from, to, was)
			}
			seen[k] = [2]int{from, to}
		}
	}
}

// Hm1: Key, of ends beyond a byte, and below 0: the lowest eight bits tell.
func TestKeyBeyond(t *testing.T) {
	ends := []int{math.MinInt, math.MinInt + 1, -65536, -257, -256, -255, -128, -2, -1, 0, 1, 128, 255, 256, 257, 511, 512, 0x1ff00, 1 << 32, 1<<32 + 1, math.MaxInt - 1, math.MaxInt}
	for _, from := range ends {
		for _, to := range ends {
			checkKey(t, "secret", from, to)
		}
	}
	for _, c := range [][2]int{{-1, 255}, {256, 0}, {-256, 0}, {257, 1}, {math.MaxInt, 255}, {math.MinInt, 0}} {
		if hmac.Key("k", c[0], 7) != hmac.Key("k", c[1], 7) || hmac.Key("k", 7, c[0]) != hmac.Key("k", 7, c[1]) {
			t.Errorf("%d and %d differ", c[0], c[1])
		}
	}
}

// Hm1: Key, of keys of each number of bytes over some blocks.
func TestKeyKeys(t *testing.T) {
	d := newDrawer()
	for size := range edge {
		checkKey(t, drawText(d, size), d.IntN(256), d.IntN(256))
		checkKey(t, strings.Repeat("\x00", size), int(d.Uint64()), int(d.Uint64()))
	}
}

// Hm2: a key of a block or less, and bytes 0 behind, lead to the same tags; one byte 0 beyond a block does not.
func TestZerosBehind(t *testing.T) {
	d := newDrawer()
	for size := range blockSize + 1 {
		key, s := drawText(d, size), drawText(d, d.IntN(edge))
		want := hmac.Sum(key, s)
		wantKey := hmac.Key(key, 3, 1)
		for zeros := range blockSize - size + 1 {
			more := key + strings.Repeat("\x00", zeros)
			if got := hmac.Sum(more, s); got != want {
				t.Errorf("%d bytes and %d bytes 0: %x", size, zeros, got)
			}
			if got := hmac.Key(more, 3, 1); got != wantKey {
				t.Errorf("Key of %d bytes and %d bytes 0: %x", size, zeros, got)
			}
		}
		if hmac.Sum(key+strings.Repeat("\x00", blockSize-size+1), s) == want {
			t.Errorf("%d bytes, and bytes 0 up to more than a block, have one tag", size)
		}
	}
}

// Hm2: bytes 0 ahead are another key, and so are other bytes behind.
func TestZerosAhead(t *testing.T) {
	for _, key := range []string{"k", "secret", strings.Repeat("k", blockSize-1)} {
		for _, other := range []string{"\x00" + key, key + "\x01", key + "\x80", key + "0"} {
			if hmac.Sum(key, "text") == hmac.Sum(other, "text") {
				t.Errorf("%q and %q have one tag", key, other)
			}
		}
	}
}

// Hm2: a key of more than a block leads to the tags of its digest; one of a block does not.
func TestDigestAsKey(t *testing.T) {
	d := newDrawer()
	for size := range edge {
		key := drawText(d, size)
		same := hmac.Sum(key, "text") == hmac.Sum(sha.Sum(key), "text")
		if same != (size > blockSize) {
			t.Errorf("%d bytes: %v", size, same)
		}
	}
}

func FuzzHmac(f *testing.F) {
	f.Add("", "", 0, 0)
	f.Add("Jefe", "what do ya want for nothing?", 1, 257)
	f.Add(strings.Repeat("k", 65), strings.Repeat("x", 200), -1, math.MinInt)
	f.Fuzz(func(t *testing.T, key, s string, from, to int) {
		checkSum(t, key, s)
		checkKey(t, key, from, to)
		checkSame(t, key, s)
		checkSame(t, s, s+key)
		checkSame(t, s, strings.Clone(s))
	})
}
