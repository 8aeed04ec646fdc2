package wide_test

import (
	"math/big"
	"math/rand/v2"
	"testing"

	"sacristy/api"
	"sacristy/nat"
	"sacristy/wide"
)

const ones = 1<<64 - 1

var (
	zero  = api.Nat{}
	one   = api.Nat{1}
	all   = api.Nat{ones, ones, ones, ones}
	bound = new(big.Int).Lsh(big.NewInt(1), api.MaxBits)
)

// toBig is what the limbs mean, told without the packages that are tested.
func toBig(a api.Nat) *big.Int {
	sum := new(big.Int)
	for k := api.Limbs - 1; k >= 0; k-- {
		sum.Lsh(sum, api.LimbBits)
		sum.Add(sum, new(big.Int).SetUint64(a[k]))
	}
	return sum
}

// wideBig is high times 2^256, and low.
func wideBig(low, high api.Nat) *big.Int {
	return new(big.Int).Add(new(big.Int).Mul(toBig(high), bound), toBig(low))
}

// isBig tells whether a natural is that number, without going over.
func isBig(a api.Nat, n *big.Int) bool {
	return toBig(a).Cmp(n) == 0
}

// edges are naturals at which a carry goes over, or a guess of a limb is wrong.
func edges() []api.Nat {
	return []api.Nat{zero, one, {2}, {3}, {7}, {10}, {1000}, {1 << 32}, {1<<63 - 1}, {1 << 63}, {1<<63 + 1}, {ones}, all,
		{0, 1}, {1, 1}, {ones, 1}, {ones, ones}, {0, 1 << 63}, {0, 0, 1}, {ones, ones, ones}, {ones, 0, 1 << 63}, {0, 0, 0, 1},
		{0, 0, 0, 1 << 63}, {1, 0, 0, 1 << 63}, {ones, ones, ones, 1 << 63}, {ones, ones, ones, 1<<63 - 1},
		{ones - 1, ones, ones, ones}, {0, ones, ones, ones}, {ones, 0, 0, ones}, {0, 0, ones - 1, 1 << 63}, {ones, ones, 0, 1 << 63},
		{0x0123456789abcdef, 0xfedcba9876543210, 0x0f1e2d3c4b5a6978, 0x8796a5b4c3d2e1f0}, {48}, {180}}
}

// drawer gives naturals of all lengths, of a seed that stays the same; half of them of limbs at the edge.
type drawer struct{ r *rand.Rand }

func newDrawer() drawer { return drawer{rand.New(rand.NewPCG(2, 512))} }

func (d drawer) draw() api.Nat {
	const few = 7
	limbs := [few]uint64{0, 1, 1<<63 - 1, 1 << 63, 1<<63 + 1, ones - 1, ones}
	edged := d.r.IntN(2) == 0
	var a api.Nat
	for k := range a {
		a[k] = d.r.Uint64()
		if edged {
			a[k] = limbs[d.r.IntN(few)]
		}
	}
	return nat.Down(a, d.r.IntN(4)*d.r.IntN(api.MaxBits/3))
}

// naturals are the edges, and some that are drawn.
func naturals() []api.Nat {
	list := edges()
	d := newDrawer()
	for range 30 {
		list = append(list, d.draw())
	}
	return list
}

// Wi1: Mul.
func TestMul(t *testing.T) {
	for _, a := range naturals() {
		for _, b := range naturals() {
			low, high := wide.Mul(a, b)
			if want := new(big.Int).Mul(toBig(a), toBig(b)); wideBig(low, high).Cmp(want) != 0 {
				t.Errorf("Mul(%x, %x) = %x, %x, want %x", a, b, low, high, want)
			}
		}
	}
	if low, high := wide.Mul(all, all); low != one || high != (api.Nat{ones - 1, ones, ones, ones}) {
		t.Error("the greatest product:", low, high)
	}
	if low, high := wide.Mul(all, one); low != all || high != zero {
		t.Error("a product with 1:", low, high)
	}
	if low, high := wide.Mul(api.Nat{0, 0, 1}, api.Nat{0, 0, 1}); low != zero || high != one {
		t.Error("2^128 times itself:", low, high)
	}
}

func checkRem(t *testing.T, low, high, m api.Nat) {
	t.Helper()
	got, e := wide.Rem(low, high, m)
	if want := new(big.Int).Mod(wideBig(low, high), toBig(m)); !isBig(got, want) || e != api.OK {
		t.Errorf("Rem(%x, %x, %x) = %x %d, want %x", low, high, m, got, e, want)
	}
}

// Wi1: Rem, with high below m, at m, and above.
func TestRem(t *testing.T) {
	for _, m := range edges() {
		if m == zero {
			continue
		}
		for _, high := range edges() {
			for _, low := range edges() {
				checkRem(t, low, high, m)
			}
		}
	}
	d := newDrawer()
	for range 20000 {
		if low, high, m := d.draw(), d.draw(), d.draw(); m != zero {
			checkRem(t, low, high, m)
		}
	}
}

// Wi1: limbs of how often m goes into a number are guessed by its highest limbs; here a guess is one too many, two too many, and all ones.
func TestRemGuesses(t *testing.T) {
	for _, c := range []struct {
		name         string
		low, high, m api.Nat
	}{
		{"right", zero, api.Nat{0, 0, 0, 1}, api.Nat{0, 0, 0, 1 << 63}},
		{"one too many", zero, api.Nat{0, 0, 0, 1<<63 - 1}, api.Nat{0, 0, 1 << 63, 1 << 63}},
		{"two too many", zero, api.Nat{0, 0, 0, 1<<63 - 1}, api.Nat{ones, ones, ones, 1 << 63}},
		{"all ones, and right", all, api.Nat{ones - 1, ones, ones, ones}, all},
		{"all ones, and one too many", zero, api.Nat{0, 0, 0, 1 << 63}, api.Nat{ones, ones, ones, 1 << 63}},
	} {
		t.Run(c.name, func(t *testing.T) { checkRem(t, c.low, c.high, c.m) })
	}
}

// Wi1: Div.
func TestDiv(t *testing.T) {
	check := func(a, b api.Nat) {
		t.Helper()
		often, rest, e := wide.Div(a, b)
		q, r := new(big.Int).QuoRem(toBig(a), toBig(b), new(big.Int))
		if !isBig(often, q) || !isBig(rest, r) || e != api.OK {
			t.Errorf("Div(%x, %x) = %x, %x %d, want %x, %x", a, b, often, rest, e, q, r)
		}
	}
	for _, a := range naturals() {
		for _, b := range naturals() {
			if b != zero {
				check(a, b)
			}
		}
	}
	d := newDrawer()
	for range 20000 {
		if a, b := d.draw(), d.draw(); b != zero {
			check(a, b)
		}
	}
}

// Wi1, Wi2: by 0 nothing is left; beside the error stands zero.
func TestByZero(t *testing.T) {
	for _, a := range edges() {
		for _, b := range edges() {
			if r, e := wide.Rem(a, b, zero); r != zero || e != api.ErrArg {
				t.Errorf("Rem(%x, %x, 0) = %x %d", a, b, r, e)
			}
			if r, e := wide.AddMod(a, b, zero); r != zero || e != api.ErrArg {
				t.Errorf("AddMod(%x, %x, 0) = %x %d", a, b, r, e)
			}
			if r, e := wide.SubMod(a, b, zero); r != zero || e != api.ErrArg {
				t.Errorf("SubMod(%x, %x, 0) = %x %d", a, b, r, e)
			}
			if r, e := wide.MulMod(a, b, zero); r != zero || e != api.ErrArg {
				t.Errorf("MulMod(%x, %x, 0) = %x %d", a, b, r, e)
			}
		}
		if q, r, e := wide.Div(a, zero); q != zero || r != zero || e != api.ErrArg {
			t.Errorf("Div(%x, 0) = %x, %x %d", a, q, r, e)
		}
	}
}

func checkMods(t *testing.T, a, b, m api.Nat) {
	t.Helper()
	x, y, n := toBig(a), toBig(b), toBig(m)
	for _, c := range []struct {
		name  string
		call  func(a, b, m api.Nat) (api.Nat, api.Errno)
		whole *big.Int
	}{
		{"AddMod", wide.AddMod, new(big.Int).Add(x, y)},
		{"SubMod", wide.SubMod, new(big.Int).Sub(x, y)},
		{"MulMod", wide.MulMod, new(big.Int).Mul(x, y)},
	} {
		// Mod of package big is never below 0, as the chapter's word 'by m' asks.
		want := new(big.Int).Mod(c.whole, n)
		if got, e := c.call(a, b, m); !isBig(got, want) || e != api.OK {
			t.Errorf("%s(%x, %x, %x) = %x %d, want %x", c.name, a, b, m, got, e, want)
		}
	}
}

// Wi2: AddMod, SubMod and MulMod, of a and b below m, at m, and above.
func TestMods(t *testing.T) {
	for _, m := range edges() {
		if m == zero {
			continue
		}
		for _, a := range edges() {
			for _, b := range edges() {
				checkMods(t, a, b, m)
			}
		}
	}
	d := newDrawer()
	for range 10000 {
		if a, b, m := d.draw(), d.draw(), d.draw(); m != zero {
			checkMods(t, a, b, m)
		}
	}
}

// Wi2: by 1 all that is left is 0.
func TestModsByOne(t *testing.T) {
	for _, a := range edges() {
		for _, b := range edges() {
			sum, _ := wide.AddMod(a, b, one)
			rest, _ := wide.SubMod(a, b, one)
			product, _ := wide.MulMod(a, b, one)
			if sum != zero || rest != zero || product != zero {
				t.Errorf("by 1, of %x and %x: %x, %x, %x", a, b, sum, rest, product)
			}
		}
	}
}

// Wi2: Gcd.
func TestGcd(t *testing.T) {
	for _, c := range [][3]int{{0, 0, 0}, {0, 9, 9}, {9, 0, 9}, {1, 0, 1}, {48, 180, 12}, {180, 48, 12}, {17, 5, 1}, {6, 6, 6}, {7, 21, 7}, {1 << 40, 1 << 20, 1 << 20}} {
		if got := wide.Gcd(nat.Of(c[0]), nat.Of(c[1])); got != nat.Of(c[2]) {
			t.Errorf("Gcd(%d, %d) = %x", c[0], c[1], got)
		}
	}
	for _, a := range naturals() {
		for _, b := range naturals() {
			if got, want := wide.Gcd(a, b), new(big.Int).GCD(nil, nil, toBig(a), toBig(b)); !isBig(got, want) {
				t.Errorf("Gcd(%x, %x) = %x, want %x", a, b, got, want)
			}
		}
	}
	// A divisor that is drawn is shared by both.
	d := newDrawer()
	for range 500 {
		g, x, y := nat.Down(d.draw(), 128), nat.Down(d.draw(), 128), nat.Down(d.draw(), 128)
		a, _ := wide.Mul(g, x)
		b, _ := wide.Mul(g, y)
		if got, want := wide.Gcd(a, b), new(big.Int).GCD(nil, nil, toBig(a), toBig(b)); !isBig(got, want) {
			t.Errorf("Gcd(%x, %x) = %x, want %x", a, b, got, want)
		}
	}
}

// fibonacci is the greatest pair of neighbours that are naturals: no pair takes Gcd and InvMod longer.
func fibonacci() (api.Nat, api.Nat) {
	a, b := one, one
	for {
		sum, carry := nat.Add(a, b)
		if carry == 1 {
			return a, b
		}
		a, b = b, sum
	}
}

func checkInv(t *testing.T, a, m api.Nat) {
	t.Helper()
	got, e := wide.InvMod(a, m)
	want := new(big.Int).ModInverse(toBig(a), toBig(m))
	if want == nil {
		if got != zero || e != api.ErrNone {
			t.Errorf("InvMod(%x, %x) = %x %d, want none", a, m, got, e)
		}
		return
	}
	if !isBig(got, want) || e != api.OK {
		t.Errorf("InvMod(%x, %x) = %x %d, want %x", a, m, got, e, want)
	}
}

// Wi2: InvMod, of a below m, at m, and above; and the chapter's example.
func TestInvMod(t *testing.T) {
	if got, e := wide.InvMod(nat.Of(3), nat.Of(7)); got != nat.Of(5) || e != api.OK {
		t.Errorf("InvMod(3, 7) = %x %d", got, e)
	}
	for m := 2; m < 60; m++ {
		for a := range 2*m + 1 {
			checkInv(t, nat.Of(a), nat.Of(m))
		}
	}
	for _, a := range naturals() {
		for _, m := range naturals() {
			if m != zero && m != one {
				checkInv(t, a, m)
			}
		}
	}
	d := newDrawer()
	for range 2000 {
		if a, m := d.draw(), d.draw(); m != zero && m != one {
			checkInv(t, a, m)
		}
	}
	a, b := fibonacci()
	checkInv(t, a, b)
	checkInv(t, b, a)
	if wide.Gcd(a, b) != one || wide.Gcd(b, a) != one {
		t.Error("Gcd of neighbours is not 1")
	}
}

// Wi2: by 0 and by 1 there is no inverse, not even of what has Gcd 1 with them; else there is none where Gcd is not 1.
func TestInvModErrors(t *testing.T) {
	for _, a := range edges() {
		for _, m := range []api.Nat{zero, one} {
			if got, e := wide.InvMod(a, m); got != zero || e != api.ErrArg {
				t.Errorf("InvMod(%x, %x) = %x %d, want ErrArg", a, m, got, e)
			}
		}
	}
	for _, c := range [][2]api.Nat{{zero, {5}}, {{5}, {5}}, {{2}, {4}}, {{4}, {2}}, {{6}, {4}}, {zero, all}, {all, all}, {{0, 1}, {0, 0, 0, 1 << 63}}, {{3}, all}} {
		if got, e := wide.InvMod(c[0], c[1]); got != zero || e != api.ErrNone {
			t.Errorf("InvMod(%x, %x) = %x %d, want ErrNone", c[0], c[1], got, e)
		}
	}
}

// Wi3: a times a sum is the sum of the products, both wide and by m.
func TestProductsGoOverSums(t *testing.T) {
	d := newDrawer()
	for range 5000 {
		a, b, c, m := d.draw(), d.draw(), d.draw(), d.draw()
		if _, carry := nat.Add(b, c); carry == 0 {
			checkWideSum(t, a, b, c)
		}
		if m == zero {
			continue
		}
		sum, _ := wide.AddMod(b, c, m)
		whole, _ := wide.MulMod(a, sum, m)
		first, _ := wide.MulMod(a, b, m)
		second, _ := wide.MulMod(a, c, m)
		if parts, e := wide.AddMod(first, second, m); parts != whole || e != api.OK {
			t.Errorf("%x times %x and %x, by %x: %x, but %x of the parts", a, b, c, m, whole, parts)
		}
		rest, _ := wide.SubMod(b, c, m)
		left, _ := wide.MulMod(a, rest, m)
		if parts, e := wide.SubMod(first, second, m); parts != left || e != api.OK {
			t.Errorf("%x times %x less %x, by %x: %x, but %x of the parts", a, b, c, m, left, parts)
		}
	}
}

// checkWideSum asks it of products of 512 bits, where b and c do not go over.
func checkWideSum(t *testing.T, a, b, c api.Nat) {
	t.Helper()
	sum, _ := nat.Add(b, c)
	low, high := wide.Mul(a, sum)
	lowB, highB := wide.Mul(a, b)
	lowC, highC := wide.Mul(a, c)
	lowSum, carry := nat.Add(lowB, lowC)
	highSum, over := nat.Add(highB, highC)
	highSum, overToo := nat.Add(highSum, nat.Of(carry))
	if lowSum != low || highSum != high || over+overToo != 0 {
		t.Errorf("%x times %x and %x: %x %x, but %x %x of the parts", a, b, c, low, high, lowSum, highSum)
	}
}

// Wi3: what an inverse is multiplied with comes back, multiplied with what it is the inverse of.
func TestInversesComeBack(t *testing.T) {
	d := newDrawer()
	found := 0
	for range 3000 {
		a, b, m := d.draw(), d.draw(), d.draw()
		inverse, e := wide.InvMod(a, m)
		if e != api.OK {
			continue
		}
		found++
		if nat.Cmp(inverse, m) >= 0 {
			t.Errorf("InvMod(%x, %x) = %x is not below", a, m, inverse)
		}
		if product, _ := wide.MulMod(a, inverse, m); product != one {
			t.Errorf("%x times its inverse by %x = %x", a, m, product)
		}
		there, _ := wide.MulMod(b, inverse, m)
		back, _ := wide.MulMod(there, a, m)
		if want, _ := wide.Rem(b, zero, m); back != want {
			t.Errorf("%x by %x came back as %x", b, m, back)
		}
	}
	if found < 100 {
		t.Error("too few inverses were looked at:", found)
	}
}

// Wi3: how often, times what it went into, with what was left, comes back; and a difference, with what was taken.
func TestDivAndSubComeBack(t *testing.T) {
	d := newDrawer()
	for range 5000 {
		a, b := d.draw(), d.draw()
		if b == zero {
			continue
		}
		often, rest, _ := wide.Div(a, b)
		low, high := wide.Mul(often, b)
		if back, carry := nat.Add(low, rest); back != a || carry != 0 || high != zero || nat.Cmp(rest, b) >= 0 {
			t.Errorf("%x and %x of Div(%x, %x) do not come back", often, rest, a, b)
		}
		c := d.draw()
		less, _ := wide.SubMod(a, c, b)
		if back, _ := wide.AddMod(less, c, b); back != rest {
			t.Errorf("SubMod(%x, %x, %x) = %x does not come back", a, c, b, less)
		}
	}
}

// R1, R4: whatever limbs are given, the calls end, and answer what numbers without a bound would.
func FuzzWide(f *testing.F) {
	f.Add(uint64(0), uint64(0), uint64(0), uint64(0), uint64(0), uint64(0), uint64(0), uint64(0), uint64(0), uint64(0), uint64(0), uint64(0))
	f.Add(uint64(ones), uint64(ones), uint64(ones), uint64(ones), uint64(0), uint64(0), uint64(0), uint64(1<<63), uint64(ones), uint64(ones), uint64(ones), uint64(1<<63))
	f.Fuzz(func(t *testing.T, a0, a1, a2, a3, b0, b1, b2, b3, m0, m1, m2, m3 uint64) {
		a, b, m := api.Nat{a0, a1, a2, a3}, api.Nat{b0, b1, b2, b3}, api.Nat{m0, m1, m2, m3}
		if got := wide.Gcd(a, b); !isBig(got, new(big.Int).GCD(nil, nil, toBig(a), toBig(b))) {
			t.Fatalf("Gcd(%x, %x) = %x", a, b, got)
		}
		if m == zero {
			return
		}
		checkRem(t, a, b, m)
		checkMods(t, a, b, m)
		if m != one {
			checkInv(t, a, m)
		}
	})
}
