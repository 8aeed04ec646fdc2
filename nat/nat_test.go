package nat_test

import (
	"math/big"
	"math/rand/v2"
	"strings"
	"testing"

	"sacristy/api"
	"sacristy/nat"
)

const ones = 1<<64 - 1

var (
	zero = api.Nat{}
	one  = api.Nat{1}
	all  = api.Nat{ones, ones, ones, ones}
	wrap = new(big.Int).Lsh(big.NewInt(1), api.MaxBits)
)

// toBig is what the limbs mean by the chapter's word 'natural', told without the package that is tested.
func toBig(a api.Nat) *big.Int {
	sum := new(big.Int)
	for k := api.Limbs - 1; k >= 0; k-- {
		sum.Lsh(sum, api.LimbBits)
		sum.Add(sum, new(big.Int).SetUint64(a[k]))
	}
	return sum
}

// fromBig is a number modulo 2^256, as limbs.
func fromBig(n *big.Int) api.Nat {
	rest := new(big.Int).Mod(n, wrap)
	var a api.Nat
	for k := range a {
		a[k] = new(big.Int).And(rest, new(big.Int).SetUint64(ones)).Uint64()
		rest.Rsh(rest, api.LimbBits)
	}
	return a
}

// edges are naturals at which a carry, a borrow or a shift goes over, or just does not.
func edges() []api.Nat {
	list := []api.Nat{zero, one, {2}, {3}, {255}, {256}, all,
		{1<<63 - 1}, {1 << 63}, {1<<63 + 1}, {ones}, {0, 1}, {1, 1}, {ones, ones},
		{0, 0, 1}, {ones, ones, ones}, {0, 0, 0, 1}, {0, ones}, {0, ones, ones, ones}, {ones, 0, ones, 0},
		{0, ones, 0, ones}, {0, 0, 0, 1 << 63}, {ones - 1, ones, ones, ones}, {ones, ones, ones, 1<<63 - 1},
		{0x0102, 3}, {0, 8}, {0x0123456789abcdef, 0xfedcba9876543210, 0x0f1e2d3c4b5a6978, 0x8796a5b4c3d2e1f0}}
	for k := 60; k < api.MaxBits; k += 13 {
		list = append(list, fromBig(new(big.Int).Lsh(big.NewInt(1), uint(k))))
	}
	return list
}

// naturals are the edges, and more from a seed that stays the same, of all lengths.
func naturals() []api.Nat {
	list := edges()
	r := rand.New(rand.NewPCG(1, 256))
	for range 40 {
		a := api.Nat{r.Uint64(), r.Uint64(), r.Uint64(), r.Uint64()}
		list = append(list, fromBig(new(big.Int).Rsh(toBig(a), uint(r.IntN(api.MaxBits)))))
	}
	return list
}

// shifts are all that may be, both ends' next ones, and those far beyond.
func shifts() []int {
	list := []int{api.MinInt, api.MinInt + 1, -1 << 32, -257, -256, -64, -1, 257, 300, 320, 512, 1 << 32, api.MaxInt - 1, api.MaxInt}
	for k := range api.MaxBits + 1 {
		list = append(list, k)
	}
	return list
}

// Na1: Of.
func TestOf(t *testing.T) {
	for _, c := range []struct {
		n    int
		want api.Nat
	}{
		{0, zero}, {1, one}, {256, api.Nat{256}}, {api.MaxInt, api.Nat{1<<63 - 1}},
		{-1, zero}, {-5, zero}, {-256, zero}, {api.MinInt, zero}, {api.MinInt + 1, zero},
	} {
		if got := nat.Of(c.n); got != c.want {
			t.Errorf("Of(%d) = %x, want %x", c.n, got, c.want)
		}
	}
}

// Na1: Int.
func TestInt(t *testing.T) {
	for _, c := range []struct {
		a  api.Nat
		n  int
		is bool
	}{
		{zero, 0, true}, {one, 1, true}, {api.Nat{256}, 256, true},
		{api.Nat{1<<63 - 2}, api.MaxInt - 1, true}, {api.Nat{1<<63 - 1}, api.MaxInt, true},
		{api.Nat{1 << 63}, 0, false}, {api.Nat{1<<63 + 1}, 0, false}, {api.Nat{ones}, 0, false},
		{api.Nat{0, 1}, 0, false}, {api.Nat{7, 1}, 0, false}, {api.Nat{7, 0, 1}, 0, false},
		{api.Nat{7, 0, 0, 1}, 0, false}, {api.Nat{7, 0, 0, 1 << 63}, 0, false}, {all, 0, false},
	} {
		if n, is := nat.Int(c.a); n != c.n || is != c.is {
			t.Errorf("Int(%x) = %d %v, want %d %v", c.a, n, is, c.n, c.is)
		}
	}
	for _, n := range []int{0, 1, 2, 1 << 31, 1 << 32, 1 << 62, api.MaxInt} {
		if got, is := nat.Int(nat.Of(n)); got != n || !is {
			t.Errorf("Int(Of(%d)) = %d %v", n, got, is)
		}
	}
}

// Na1: Cmp.
func TestCmp(t *testing.T) {
	for _, a := range naturals() {
		if got := nat.Cmp(a, a); got != 0 {
			t.Errorf("Cmp of %x with itself = %d", a, got)
		}
		for _, b := range naturals() {
			if got, want := nat.Cmp(a, b), toBig(a).Cmp(toBig(b)); got != want {
				t.Errorf("Cmp(%x, %x) = %d, want %d", a, b, got, want)
			}
		}
	}
}

// Na1: Add and Sub, modulo 2^256, and what goes over.
func TestAddSub(t *testing.T) {
	for _, a := range naturals() {
		for _, b := range naturals() {
			sum := new(big.Int).Add(toBig(a), toBig(b))
			if got, carry := nat.Add(a, b); got != fromBig(sum) || carry != int(sum.Bit(api.MaxBits)) {
				t.Errorf("Add(%x, %x) = %x %d", a, b, got, carry)
			}
			rest := new(big.Int).Sub(toBig(a), toBig(b))
			borrowed := 0
			if rest.Sign() < 0 {
				borrowed = 1
			}
			if got, borrow := nat.Sub(a, b); got != fromBig(rest) || borrow != borrowed {
				t.Errorf("Sub(%x, %x) = %x %d", a, b, got, borrow)
			}
		}
	}
}

// Na1: the very edge at which a sum is 2^256, and a rest is below 0.
func TestAddSubEdges(t *testing.T) {
	if s, c := nat.Add(all, one); s != zero || c != 1 {
		t.Error("2^256 is not told:", s, c)
	}
	if s, c := nat.Add(api.Nat{ones - 1, ones, ones, ones}, one); s != all || c != 0 {
		t.Error("2^256 - 1 is carried:", s, c)
	}
	if s, c := nat.Add(all, all); s != (api.Nat{ones - 1, ones, ones, ones}) || c != 1 {
		t.Error("the greatest sum:", s, c)
	}
	if d, b := nat.Sub(zero, one); d != all || b != 1 {
		t.Error("0 less 1:", d, b)
	}
	if d, b := nat.Sub(zero, all); d != one || b != 1 {
		t.Error("0 less the greatest:", d, b)
	}
	if d, b := nat.Sub(api.Nat{0, 0, 0, 1}, one); d != (api.Nat{ones, ones, ones}) || b != 0 {
		t.Error("2^192 less 1:", d, b)
	}
	if d, b := nat.Sub(api.Nat{0, 1}, one); d != (api.Nat{ones}) || b != 0 {
		t.Error("2^64 less 1:", d, b)
	}
}

// Na2: Len and Bit.
func TestLenBit(t *testing.T) {
	if nat.Len(zero) != 0 || nat.Len(one) != 1 || nat.Len(all) != api.MaxBits {
		t.Error("Len at the ends:", nat.Len(zero), nat.Len(one), nat.Len(all))
	}
	for _, a := range naturals() {
		n := toBig(a)
		if got := nat.Len(a); got != n.BitLen() {
			t.Errorf("Len(%x) = %d, want %d", a, got, n.BitLen())
		}
		for _, k := range shifts() {
			want := 0
			if k >= 0 && k < api.MaxBits {
				want = int(n.Bit(k))
			}
			if got := nat.Bit(a, k); got != want {
				t.Errorf("Bit(%x, %d) = %d, want %d", a, k, got, want)
			}
		}
	}
}

// shiftWant is what the chapter asks of Up and of Down: a of k below 1, 0 of k above 255.
func shiftWant(a api.Nat, k int, shift func(n *big.Int, k uint) *big.Int) api.Nat {
	switch {
	case k < 1:
		return a
	case k > api.MaxBits-1:
		return zero
	}
	return fromBig(shift(toBig(a), uint(k)))
}

// Na2: Up and Down.
func TestUpDown(t *testing.T) {
	for _, a := range naturals() {
		for _, k := range shifts() {
			if got, want := nat.Up(a, k), shiftWant(a, k, new(big.Int).Lsh); got != want {
				t.Errorf("Up(%x, %d) = %x, want %x", a, k, got, want)
			}
			if got, want := nat.Down(a, k), shiftWant(a, k, new(big.Int).Rsh); got != want {
				t.Errorf("Down(%x, %d) = %x, want %x", a, k, got, want)
			}
		}
	}
	if nat.Up(all, 255) != (api.Nat{0, 0, 0, 1 << 63}) || nat.Down(all, 255) != one {
		t.Error("k at 255:", nat.Up(all, 255), nat.Down(all, 255))
	}
}

// Na3: Bytes, and Take of them.
func TestBytesTake(t *testing.T) {
	for _, c := range []struct {
		a    api.Nat
		want string
	}{
		{zero, ""}, {one, "\x01"}, {api.Nat{255}, "\xff"}, {api.Nat{256}, "\x01\x00"},
		{api.Nat{ones}, strings.Repeat("\xff", 8)}, {api.Nat{0, 1}, "\x01" + strings.Repeat("\x00", 8)},
		{api.Nat{0x0102, 3}, "\x03\x00\x00\x00\x00\x00\x00\x01\x02"}, {all, strings.Repeat("\xff", 32)},
		{api.Nat{0, 0, 0, 1 << 56}, "\x01" + strings.Repeat("\x00", 31)},
		{api.Nat{0, 0, 0, 1<<56 - 1}, strings.Repeat("\xff", 7) + strings.Repeat("\x00", 24)},
	} {
		if got := nat.Bytes(c.a); got != c.want {
			t.Errorf("Bytes(%x) = %q, want %q", c.a, got, c.want)
		}
	}
	for _, a := range naturals() {
		s := nat.Bytes(a)
		if s != string(toBig(a).Bytes()) {
			t.Errorf("Bytes(%x) = %q", a, s)
		}
		if got, e := nat.Take(s); got != a || e != api.OK {
			t.Errorf("Take(%q) = %x %d, want %x", s, got, e, a)
		}
	}
}

// Na3: Take at each length, up to the longest that may be.
func TestTakeLengths(t *testing.T) {
	const text = "\x01\x02\x03\x04\x05\x06\x07\x08\x09\x0a\x0b\x0c\x0d\x0e\x0f\x00\x11\x12\x13\x14\x15\x16\x17\x18\x19\x1a\x1b\x1c\x1d\x1e\x1f\x20"
	for n := range len(text) + 1 {
		s := text[:n]
		want := fromBig(new(big.Int).SetBytes([]byte(s)))
		a, e := nat.Take(s)
		if a != want || e != api.OK {
			t.Errorf("Take(%q) = %x %d, want %x", s, a, e, want)
		}
		if nat.Bytes(a) != s {
			t.Errorf("Bytes(Take(%q)) = %q", s, nat.Bytes(a))
		}
	}
}

// Na3: bytes that are no natural's; beside the error stands zero.
func TestTakeBad(t *testing.T) {
	for _, s := range []string{
		"\x00", "\x00\x00", "\x00\x01", "\x00" + strings.Repeat("\xff", 31), strings.Repeat("\x00", 32),
		"\x00" + strings.Repeat("\x01", 32), strings.Repeat("\x00", 33),
		"\x01" + strings.Repeat("\x00", 32), strings.Repeat("\xff", 33), strings.Repeat("\xff", 64), strings.Repeat("a", 1<<16),
	} {
		if a, e := nat.Take(s); a != zero || e != api.ErrBad {
			t.Errorf("Take of %d bytes that begin with %q = %x %d", len(s), s[:1], a, e)
		}
	}
}

// Na4: what is added is taken away again, with the same going over; and the other way round.
func TestAddSubGoBack(t *testing.T) {
	for _, a := range naturals() {
		for _, b := range naturals() {
			sum, carry := nat.Add(a, b)
			if back, borrow := nat.Sub(sum, b); back != a || borrow != carry {
				t.Errorf("Sub(Add(%x, %x)) = %x %d", a, b, back, borrow)
			}
			rest, borrow := nat.Sub(a, b)
			if back, carry := nat.Add(rest, b); back != a || carry != borrow {
				t.Errorf("Add(Sub(%x, %x)) = %x %d", a, b, back, carry)
			}
		}
	}
}

// Na4: the order of what is added does not matter, not to the sum, and not to how often it goes over.
func TestAddOrder(t *testing.T) {
	for _, a := range edges() {
		for _, b := range edges() {
			ab, carry := nat.Add(a, b)
			if ba, c := nat.Add(b, a); ba != ab || c != carry {
				t.Errorf("Add(%x, %x) and the other way round: %x %d, %x %d", a, b, ab, carry, ba, c)
			}
			for _, c := range edges() {
				left, carryLeft := nat.Add(ab, c)
				bc, carryBC := nat.Add(b, c)
				right, carryRight := nat.Add(a, bc)
				if left != right || carry+carryLeft != carryBC+carryRight {
					t.Errorf("the order of %x, %x and %x matters", a, b, c)
				}
			}
		}
	}
}

// Na4: Up of a sum is the sum of both, up; once up is a number with itself; and what is up comes down.
func TestUpDownWithAdd(t *testing.T) {
	for _, a := range naturals() {
		if twice, carry := nat.Add(a, a); nat.Up(a, 1) != twice || nat.Bit(a, 255) != carry {
			t.Errorf("Up(%x, 1) is not the number with itself", a)
		}
		for _, k := range shifts() {
			checkParts(t, a, k)
			for _, b := range edges() {
				sum, _ := nat.Add(a, b)
				if ups, _ := nat.Add(nat.Up(a, k), nat.Up(b, k)); nat.Up(sum, k) != ups {
					t.Fatalf("Up(%x with %x, %d) = %x, want %x", a, b, k, nat.Up(sum, k), ups)
				}
			}
		}
	}
}

// checkParts takes a apart at bit k, and puts it together again by Add.
func checkParts(t *testing.T, a api.Nat, k int) {
	t.Helper()
	high := nat.Up(nat.Down(a, k), k)
	low := zero
	if k > 0 {
		low = nat.Down(nat.Up(a, api.MaxBits-k), api.MaxBits-k)
	}
	if k >= api.MaxBits {
		low = a
	}
	if sum, carry := nat.Add(high, low); sum != a || carry != 0 {
		t.Errorf("%x at bit %d is %x and %x, with a sum of %x", a, k, high, low, sum)
	}
}

// R1, R4: whatever bytes and numbers are given, the calls end, and answer what numbers without a bound would.
func FuzzNat(f *testing.F) {
	f.Add("", "\x00", 0)
	f.Add(strings.Repeat("\xff", 32), "\x01", 255)
	f.Add(strings.Repeat("\xff", 33), strings.Repeat("\x00", 32), -1)
	f.Fuzz(func(t *testing.T, s, u string, k int) {
		a, e := nat.Take(s)
		if bad := len(s) > 32 || strings.HasPrefix(s, "\x00"); bad != (e == api.ErrBad) || !bad && nat.Bytes(a) != s {
			t.Fatalf("Take(%q) = %x %d", s, a, e)
		}
		b, _ := nat.Take(u)
		if sum, _ := nat.Add(a, b); sum != fromBig(new(big.Int).Add(toBig(a), toBig(b))) {
			t.Fatalf("Add(%x, %x) = %x", a, b, sum)
		}
		if rest, _ := nat.Sub(a, b); rest != fromBig(new(big.Int).Sub(toBig(a), toBig(b))) {
			t.Fatalf("Sub(%x, %x) = %x", a, b, rest)
		}
		if nat.Cmp(a, b) != toBig(a).Cmp(toBig(b)) {
			t.Fatalf("Cmp(%x, %x) = %d", a, b, nat.Cmp(a, b))
		}
		if nat.Up(a, k) != shiftWant(a, k, new(big.Int).Lsh) || nat.Down(a, k) != shiftWant(a, k, new(big.Int).Rsh) {
			t.Fatalf("Up and Down(%x, %d) = %x, %x", a, k, nat.Up(a, k), nat.Down(a, k))
		}
		checkParts(t, a, k)
	})
}
