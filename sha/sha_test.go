package sha_test

import (
	"crypto/sha256"
	"encoding/hex"
	"math/rand/v2"
	"slices"
	"strings"
	"testing"

	"sacristy/sha"
)

const (
	sumSize = 32
	// edge is a few blocks, so that each place of the closing bytes in a block is met, in the first block and in later ones.
	edge = 4*64 + 3
)

// digestOf is the digest, told by the library, that the program itself may not take.
func digestOf(s string) string {
	sum := sha256.Sum256([]byte(s))
	return string(sum[:])
}

// newDrawer gives bytes of a seed that stays the same.
func newDrawer() *rand.Rand { return rand.New(rand.NewPCG(5, 256)) }

func drawText(d *rand.Rand, size int) string {
	b := make([]byte, size)
	for k := range b {
		b[k] = byte(d.UintN(256))
	}
	return string(b)
}

func checkSum(t *testing.T, s string) {
	t.Helper()
	got := sha.Sum(s)
	if len(got) != sumSize || got != digestOf(s) {
		t.Errorf("Sum of %d bytes %.80q: %x", len(s), s, got)
	}
}

// addAll is a digest of parts, one behind the other.
func addAll(parts ...string) *sha.Hash {
	h := sha.New()
	for _, p := range parts {
		h.Add(p)
	}
	return h
}

// checkParts tells whether parts lead to the digest of them as one.
func checkParts(t *testing.T, parts ...string) {
	t.Helper()
	whole := strings.Join(parts, "")
	if got := addAll(parts...).Sum(); got != digestOf(whole) || got != sha.Sum(whole) {
		t.Errorf("%d parts of %d bytes in all: %x", len(parts), len(whole), got)
	}
}

// Sh1: Sum, of texts whose digests are known without any program here.
func TestSumKnown(t *testing.T) {
	for _, c := range []struct{ text, digest string }{
		{"", "e3b0c44298fc1c149afbf4c8996fb92427ae41e4649b934ca495991b7852b855"},
		{"abc", "ba7816bf8f01cfea414140de5dae2223b00361a396177a9cb410ff61f20015ad"},
		{"abcdbcdecdefdefgefghfghighijhijkijkljklmklmnlmnomnopnopq", "248d6a61d20638b8e5c026930c3e6039a33ce45964ff2167f6ecedd419db06c1"},
		{"abcdefghbcdefghicdefghijdefghijkefghijklfghijklmghijklmnhijklmnoijklmnopjklmnopqklmnopqrlmnopqrsmnopqrstnopqrstu", "cf5b16a778af8380036ce59e7b0492370b249b11e8f07a51afac45037afee9d1"},
		{strings.Repeat("a", 1000000), "cdc76e5c9914fb9281a1c7e284d73e67f1809a48a497200e046d39ccc7112cd0"},
	} {
		want, err := hex.DecodeString(c.digest)
		if err != nil {
			t.Fatal(err)
		}
		if got := sha.Sum(c.text); got != string(want) {
			t.Errorf("Sum of %.40q is %x", c.text, got)
		}
		if got := addAll(c.text).Sum(); got != string(want) {
			t.Errorf("the Hash of %.40q is %x", c.text, got)
		}
		if got := sha.Hex(sha.Sum(c.text)); got != c.digest {
			t.Errorf("Sum of %.40q, by digits, is %s", c.text, got)
		}
	}
}

// Sh1: Sum, of each number of bytes over some blocks, of bytes that the closing ones are easily taken for, too.
func TestSumLengths(t *testing.T) {
	d := newDrawer()
	for size := range edge {
		for _, b := range []string{"\x00", "\x01", "\x7f", "\x80", "\xff", "a"} {
			checkSum(t, strings.Repeat(b, size))
		}
		checkSum(t, drawText(d, size))
	}
}

// Sh1: Sum, of each byte alone, and of each bit alone in a block.
func TestSumBytes(t *testing.T) {
	for b := range 256 {
		checkSum(t, string([]byte{byte(b)}))
	}
	for bit := range 8 * 64 {
		block := make([]byte, 64)
		block[bit/8] = 1 << (bit % 8)
		checkSum(t, string(block))
	}
}

// Sh1: Sum, of drawn bytes.
func TestSumDrawn(t *testing.T) {
	d := newDrawer()
	for range 3000 {
		checkSum(t, drawText(d, d.IntN(2000)))
	}
	checkSum(t, drawText(d, 1<<20+55))
	checkSum(t, drawText(d, 1<<20+56))
}

// Sh1: the number of bits goes beyond 32 bits.
func TestSumLong(t *testing.T) {
	part := strings.Repeat("sacristy", 1<<17)
	h, want := sha.New(), sha256.New()
	for range 1 << 29 / len(part) {
		h.Add(part)
		want.Write([]byte(part))
	}
	if got := h.Sum(); got != string(want.Sum(nil)) {
		t.Errorf("2^32 bits: %x", got)
	}
	h.Add("and more")
	want.Write([]byte("and more"))
	if got := h.Sum(); got != string(want.Sum(nil)) {
		t.Errorf("more than 2^32 bits: %x", got)
	}
}

// Sh1: a Hash to which nothing was added, or only nothing.
func TestHashOfNone(t *testing.T) {
	for _, parts := range [][]string{nil, {""}, {"", "", ""}} {
		if got := addAll(parts...).Sum(); got != digestOf("") {
			t.Errorf("%q: %x", parts, got)
		}
	}
}

// Sh1 and Sh2: all ways to part bytes into two.
func TestTwoParts(t *testing.T) {
	d := newDrawer()
	for size := range edge {
		s := drawText(d, size)
		for cut := range size + 1 {
			checkParts(t, s[:cut], s[cut:])
		}
	}
}

// Sh1 and Sh2: parts of one size each, from a byte on, with a shorter one at the end.
func TestEvenParts(t *testing.T) {
	s := drawText(newDrawer(), 3*edge)
	for size := range edge {
		var parts []string
		for p := range slices.Chunk([]byte(s), size+1) {
			parts = append(parts, string(p))
		}
		checkParts(t, parts...)
	}
}

// Sh1 and Sh2: parts of drawn sizes, some of them empty.
func TestDrawnParts(t *testing.T) {
	d := newDrawer()
	for range 3000 {
		var parts []string
		for range d.IntN(12) {
			parts = append(parts, drawText(d, d.IntN(1+[]int{0, 3, 64, 300}[d.IntN(4)])))
		}
		checkParts(t, parts...)
	}
}

// Sh2: parts are what they are as one: other bytes, or the same ones in another order, are not.
func TestPartsInOrder(t *testing.T) {
	if addAll("ab", "c").Sum() != addAll("a", "bc").Sum() {
		t.Error("ab, c and a, bc differ")
	}
	for _, parts := range [][]string{{"c", "ab"}, {"ab"}, {"ab", "c", "\x00"}, {"ab", "c", "\x80"}, {"ab", "d"}} {
		if addAll(parts...).Sum() == sha.Sum("abc") {
			t.Errorf("%q is taken for abc", parts)
		}
	}
}

// Sh1: Sum changes nothing, wherever it is asked.
func TestSumChangesNothing(t *testing.T) {
	s := drawText(newDrawer(), edge)
	for _, step := range []int{1, 7, 55, 56, 63, 64, 65} {
		h := sha.New()
		for from := 0; ; from += step {
			from = min(from, len(s))
			for range 3 {
				if got := h.Sum(); got != digestOf(s[:from]) {
					t.Errorf("%d bytes, by %d each: %x", from, step, got)
				}
			}
			if from == len(s) {
				break
			}
			h.Add(s[from:min(from+step, len(s))])
		}
	}
}

// Sh1: each Hash has bytes of its own.
func TestHashesAlone(t *testing.T) {
	d := newDrawer()
	var hashes [5]*sha.Hash
	var texts [5]string
	for k := range hashes {
		hashes[k] = sha.New()
	}
	for range 400 {
		k, more := d.IntN(len(hashes)), drawText(d, d.IntN(100))
		hashes[k].Add(more)
		texts[k] += more
		other := d.IntN(len(hashes))
		if got := hashes[other].Sum(); got != digestOf(texts[other]) {
			t.Fatalf("%d bytes: %x", len(texts[other]), got)
		}
	}
}

// Sh1: of a Hash that New did not give, Add does nothing, and Sum tells nothing.
func TestHashNotGiven(t *testing.T) {
	var zero sha.Hash
	for name, h := range map[string]*sha.Hash{"nil": nil, "new": new(sha.Hash), "zero": &zero} {
		for _, s := range []string{"", "abc", strings.Repeat("x", 64), strings.Repeat("x", 1000)} {
			if got := h.Sum(); got != "" {
				t.Errorf("%s: %x", name, got)
			}
			h.Add(s)
		}
		if got := h.Sum(); got != "" {
			t.Errorf("%s, with bytes added: %x", name, got)
		}
	}
	if zero != (sha.Hash{}) {
		t.Error("Add did something")
	}
}

// Sh1: Hex, of each byte, of none, and of many.
func TestHex(t *testing.T) {
	for _, c := range []struct{ bytes, digits string }{
		{"", ""}, {"\x00", "00"}, {"\x09", "09"}, {"\x0a", "0a"}, {"\x0f", "0f"}, {"\x10", "10"}, {"\x9f", "9f"}, {"\xa0", "a0"}, {"\xf0", "f0"}, {"\xff", "ff"},
		{"\x00\x01", "0001"}, {"x", "78"}, {"é", "c3a9"}, {"\xde\xad\xbe\xef", "deadbeef"},
	} {
		if got := sha.Hex(c.bytes); got != c.digits {
			t.Errorf("Hex(%q) = %q", c.bytes, got)
		}
	}
	for b := range 256 {
		s := string([]byte{byte(b)})
		if got := sha.Hex(s); got != hex.EncodeToString([]byte(s)) {
			t.Errorf("Hex(%q) = %q", s, got)
		}
	}
	d := newDrawer()
	for size := range edge {
		s := drawText(d, size)
		if got := sha.Hex(s); got != hex.EncodeToString([]byte(s)) {
			t.Errorf("Hex(%q) = %q", s, got)
		}
	}
}

func FuzzSha(f *testing.F) {
	f.Add("", 0, 0)
	f.Add("abc", 1, 2)
	f.Add(strings.Repeat("x", 200), 56, 64)
	f.Fuzz(func(t *testing.T, s string, one, other int) {
		// Two places in s, whatever the numbers are.
		from := int(uint(one) % uint(len(s)+1))
		to := int(uint(other) % uint(len(s)+1))
		from, to = min(from, to), max(from, to)
		checkSum(t, s)
		checkParts(t, s[:from], s[from:to], s[to:])
		if got := sha.Hex(s); got != hex.EncodeToString([]byte(s)) {
			t.Errorf("Hex(%q) = %q", s, got)
		}
	})
}
