package mont_test

import (
	"math/big"
	"math/rand/v2"
	"slices"
	"testing"

	"sacristy/api"
	"sacristy/mont"
	"sacristy/nat"
)

const (
	ones = 1<<64 - 1
	most = 64 // bases of Prod
)

var (
	zero  = api.Nat{}
	one   = api.Nat{1}
	all   = api.Nat{ones, ones, ones, ones}
	bound = new(big.Int).Lsh(big.NewInt(1), api.MaxBits)
)

// toBig is what the limbs mean, told without the packages that are tested.
func toBig(a api.Nat) *big.Int {
	sum := new(big.Int)
	for k := api.Limbs - 1; k >= 0; k-- {
		sum.Lsh(sum, api.LimbBits)
		sum.Add(sum, new(big.Int).SetUint64(a[k]))
	}
	return sum
}

// isBig tells whether a natural is that number, without going over.
func isBig(a api.Nat, n *big.Int) bool {
	return toBig(a).Cmp(n) == 0
}

// isByM tells whether a natural is what is left of a number by m.
func isByM(a api.Nat, n *big.Int, m api.Nat) bool {
	return isBig(a, new(big.Int).Mod(n, toBig(m)))
}

// odds are naturals that a ring can be below: the least, such of each length, and those at which a limb is 1, all ones, or 0.
func odds() []api.Nat {
	return []api.Nat{{3}, {5}, {7}, {9}, {15}, {1001}, {65521}, {1<<32 + 1}, {1<<63 - 1}, {1<<63 + 1}, {ones - 58}, {ones},
		{1, 1}, {ones, 1}, {ones, ones}, {1, 1 << 63}, {1, 0, 1}, {ones, ones, ones}, {1, ones}, {1, 0, 0, 1}, {ones, 0, 0, 1},
		{1, 0, 0, 1 << 63}, {ones, ones, ones, 1<<63 - 1}, {ones, ones, ones, 1 << 63}, {ones - 188, ones, ones, ones}, {1, ones, ones, ones},
		{ones, 0, 0, ones}, {ones, 0, ones, ones}, all, {ones - 2, ones, ones, ones},
		{0x0123456789abcdef, 0xfedcba9876543210, 0x0f1e2d3c4b5a6978, 0x8796a5b4c3d2e1f0}}
}

// edges are naturals at which a carry goes over.
func edges() []api.Nat {
	return []api.Nat{zero, one, {2}, {3}, {1000}, {1 << 63}, {ones}, {0, 1}, {1, 1}, {ones, ones}, {0, 0, 1}, {ones, ones, ones}, {0, 0, 0, 1},
		{0, 0, 0, 1 << 63}, {ones, ones, ones, 1<<63 - 1}, {0, ones, ones, ones}, {ones, 0, 0, ones}, {ones - 1, ones, ones, ones}, all,
		{0x1111111111111111, 0x2222222222222222, 0x3333333333333333, 0x4444444444444444}}
}

// around are the edges, and those next to m and to twice m.
func around(m api.Nat) []api.Nat {
	less, _ := nat.Sub(m, one)
	more, _ := nat.Add(m, one)
	twice, _ := nat.Add(m, m)
	beside, _ := nat.Sub(twice, one)
	return append(edges(), less, m, more, nat.Down(m, 1), twice, beside)
}

// exponents are those at which a power is told another way: none, one, at the ends of digits, of limbs, and the greatest.
func exponents() []api.Nat {
	return []api.Nat{zero, one, {2}, {3}, {4}, {7}, {8}, {15}, {16}, {17}, {31}, {32}, {255}, {256}, {257}, {0x0f0f}, {0xf0f0}, {1 << 63}, {ones}, {0, 1},
		{1, 1}, {ones, ones}, {0, 0, 1}, {0, 0, 0, 1}, {0, 0, 0, 1 << 63}, {1, 0, 0, 1 << 63}, {ones, ones, ones, 1<<63 - 1}, {0, 0, 0, 1 << 60}, all,
		{0x0123456789abcdef, 0xfedcba9876543210, 0x0123456789abcdef, 0xfedcba9876543210}}
}

// drawer gives naturals of all lengths, of a seed that stays the same; half of them of limbs at the edge.
type drawer struct{ r *rand.Rand }

func newDrawer() drawer { return drawer{rand.New(rand.NewPCG(3, 256))} }

func (d drawer) draw() api.Nat {
	const few = 7
	limbs := [few]uint64{0, 1, 1<<63 - 1, 1 << 63, 1<<63 + 1, ones - 1, ones}
	edged := d.r.IntN(2) == 0
	var a api.Nat
	for k := range a {
		a[k] = d.r.Uint64()
		if edged {
			a[k] = limbs[d.r.IntN(few)]
		}
	}
	return nat.Down(a, d.r.IntN(4)*d.r.IntN(api.MaxBits/3))
}

// drawOdd is one that a ring can be below.
func (d drawer) drawOdd() api.Nat {
	a := d.draw()
	a[0] |= 1
	if a == one {
		a[0] = 3
	}
	return a
}

func (d drawer) drawList(n int) []api.Nat {
	list := make([]api.Nat, n)
	for k := range list {
		list[k] = d.draw()
	}
	return list
}

func newRing(t *testing.T, m api.Nat) *mont.Ring {
	t.Helper()
	r, e := mont.New(m)
	if e != api.OK || r == nil {
		t.Fatalf("New(%x): %v %d", m, r, e)
	}
	return r
}

// Mo1: New and M.
func TestNew(t *testing.T) {
	for _, m := range odds() {
		if got := newRing(t, m).M(); got != m {
			t.Errorf("M of New(%x) = %x", m, got)
		}
	}
	d := newDrawer()
	for range 1000 {
		m := d.drawOdd()
		if got := newRing(t, m).M(); got != m {
			t.Errorf("M of New(%x) = %x", m, got)
		}
	}
}

// Mo1: below an even natural there is no ring, whatever stands above its lowest bit; nor below 1.
func TestNewErrors(t *testing.T) {
	wrong := []api.Nat{zero, one, {2}, {4}, {8}, {1000}, {ones - 1}, {1 << 63}, {0, 1}, {2, 1}, {0, ones, ones, ones}, {0, 0, 1}, {0, 0, 0, 1}, {0, 0, 0, 1 << 63}, {ones - 1, ones, ones, ones}}
	for _, m := range wrong {
		if r, e := mont.New(m); r != nil || e != api.ErrArg {
			t.Errorf("New(%x) = %v %d, want ErrArg", m, r, e)
		}
	}
	// What is 1 in its lowest limb alone is not 1.
	for _, m := range []api.Nat{{1, 1}, {1, 0, 1}, {1, 0, 0, 1}} {
		newRing(t, m)
	}
}

// Mo1: In.
func TestIn(t *testing.T) {
	for _, m := range odds() {
		r := newRing(t, m)
		for _, a := range around(m) {
			if got, want := r.In(a), toBig(a).Cmp(toBig(m)) < 0; got != want {
				t.Errorf("In(%x) below %x = %v", a, m, got)
			}
		}
	}
}

func checkMul(t *testing.T, r *mont.Ring, a, b api.Nat) {
	t.Helper()
	if got := r.Mul(a, b); !isByM(got, new(big.Int).Mul(toBig(a), toBig(b)), r.M()) {
		t.Errorf("Mul(%x, %x) below %x = %x", a, b, r.M(), got)
	}
}

// Mo1: Mul, of a and b below m, at m, and above.
func TestMul(t *testing.T) {
	for _, m := range odds() {
		r := newRing(t, m)
		for _, a := range around(m) {
			for _, b := range around(m) {
				checkMul(t, r, a, b)
			}
		}
	}
	d := newDrawer()
	for range 20000 {
		checkMul(t, newRing(t, d.drawOdd()), d.draw(), d.draw())
	}
}

func checkForms(t *testing.T, r *mont.Ring, a api.Nat) {
	t.Helper()
	m := r.M()
	form := r.Form(a)
	if !isByM(form, new(big.Int).Mul(toBig(a), bound), m) {
		t.Errorf("Form(%x) below %x = %x", a, m, form)
	}
	plain := r.Plain(a)
	// As m is odd, just one natural below m has a by m as its Form.
	back := new(big.Int).Mul(toBig(a), new(big.Int).ModInverse(bound, toBig(m)))
	if !isByM(plain, back, m) {
		t.Errorf("Plain(%x) below %x = %x, want %x", a, m, plain, back.Mod(back, toBig(m)))
	}
	if got := r.Plain(form); !isByM(got, toBig(a), m) {
		t.Errorf("Plain of Form(%x) below %x = %x", a, m, got)
	}
	if got := r.Form(plain); !isByM(got, toBig(a), m) {
		t.Errorf("Form of Plain(%x) below %x = %x", a, m, got)
	}
}

// Mo1: Form and Plain, of a below m, at m, and above.
func TestFormPlain(t *testing.T) {
	for _, m := range odds() {
		r := newRing(t, m)
		for _, a := range around(m) {
			checkForms(t, r, a)
		}
	}
	d := newDrawer()
	for range 5000 {
		checkForms(t, newRing(t, d.drawOdd()), d.draw())
	}
	greatest := newRing(t, all)
	if greatest.Form(nat.Of(9)) != nat.Of(9) || greatest.Plain(nat.Of(9)) != nat.Of(9) || greatest.Form(all) != zero || greatest.Plain(all) != zero {
		t.Error("below 2^256 - 1 2^256 is 1")
	}
}

func checkExp(t *testing.T, r *mont.Ring, a, e api.Nat) {
	t.Helper()
	if got, want := r.Exp(a, e), new(big.Int).Exp(toBig(a), toBig(e), toBig(r.M())); !isBig(got, want) {
		t.Errorf("Exp(%x, %x) below %x = %x, want %x", a, e, r.M(), got, want)
	}
}

// Mo1: Exp, of small ones counted one by one, and the chapter's example.
func TestExpSmall(t *testing.T) {
	if got := newRing(t, nat.Of(1001)).Exp(nat.Of(2), nat.Of(10)); got != nat.Of(23) {
		t.Errorf("2 to the 10 by 1001 = %x", got)
	}
	for m := 3; m < 40; m += 2 {
		r := newRing(t, nat.Of(m))
		for a := range 2*m + 1 {
			want := 1
			for e := range 40 {
				if got := r.Exp(nat.Of(a), nat.Of(e)); got != nat.Of(want) {
					t.Errorf("%d to the %d by %d = %x, want %d", a, e, m, got, want)
				}
				want = want * a % m
			}
		}
	}
}

// Mo1: Exp, at the edges of bases and of exponents, and drawn.
func TestExp(t *testing.T) {
	for _, m := range odds() {
		r := newRing(t, m)
		for _, e := range exponents() {
			for _, a := range around(m) {
				checkExp(t, r, a, e)
			}
		}
	}
	d := newDrawer()
	for range 2000 {
		checkExp(t, newRing(t, d.drawOdd()), d.draw(), d.draw())
	}
}

// Mo1: of e 0 a power is 1, even that of 0, and of what is 0 by m; else a power of 0 is 0, and one of 1 is 1.
func TestExpOfNone(t *testing.T) {
	for _, m := range odds() {
		r := newRing(t, m)
		for _, a := range around(m) {
			if got := r.Exp(a, zero); got != one {
				t.Errorf("%x to the 0 by %x = %x", a, m, got)
			}
		}
		for _, e := range exponents()[1:] {
			if r.Exp(zero, e) != zero || r.Exp(m, e) != zero || r.Exp(one, e) != one {
				t.Errorf("0, %x and 1 to the %x by %x: %x, %x, %x", m, e, m, r.Exp(zero, e), r.Exp(m, e), r.Exp(one, e))
			}
		}
	}
}

func checkProd(t *testing.T, r *mont.Ring, bases, exps []api.Nat) {
	t.Helper()
	want := big.NewInt(1)
	for k := range bases {
		want.Mul(want, new(big.Int).Exp(toBig(bases[k]), toBig(exps[k]), toBig(r.M())))
		want.Mod(want, toBig(r.M()))
	}
	if got, e := r.Prod(bases, exps); !isBig(got, want) || e != api.OK {
		t.Errorf("Prod(%x, %x) below %x = %x %d, want %x", bases, exps, r.M(), got, e, want)
	}
}

// Mo2: Prod, of each number of bases that may be.
func TestProd(t *testing.T) {
	d := newDrawer()
	for n := range most + 1 {
		for range 3 {
			checkProd(t, newRing(t, d.drawOdd()), d.drawList(n), d.drawList(n))
		}
	}
	for range 500 {
		n := d.r.IntN(5)
		checkProd(t, newRing(t, d.drawOdd()), d.drawList(n), d.drawList(n))
	}
}

// Mo2: of none the product is 1, a list nil or empty; and with two at the edges.
func TestProdEdges(t *testing.T) {
	for _, m := range odds() {
		r := newRing(t, m)
		for _, lists := range [][2][]api.Nat{{nil, nil}, {nil, {}}, {{}, nil}, {{}, {}}} {
			if got, e := r.Prod(lists[0], lists[1]); got != one || e != api.OK {
				t.Errorf("Prod of none below %x = %x %d", m, got, e)
			}
		}
		for _, e := range exponents() {
			for _, f := range exponents() {
				checkProd(t, r, []api.Nat{{2}, {3, 1}}, []api.Nat{e, f})
			}
		}
		bases := around(m)
		for _, e := range exponents() {
			exps := slices.Repeat([]api.Nat{e}, len(bases))
			checkProd(t, r, bases, exps)
			checkProd(t, r, bases[1:], exps[1:])
		}
		// A 0 makes 0 of all, unless its exp is 0.
		if got, e := r.Prod([]api.Nat{{2}, zero}, []api.Nat{{3}, one}); got != zero || e != api.OK {
			t.Errorf("Prod with 0 to the 1 below %x = %x %d", m, got, e)
		}
		checkProd(t, r, []api.Nat{{2}, zero, m}, []api.Nat{{3}, zero, zero})
	}
}

// Mo2: as many of both, and at most 64.
func TestProdErrors(t *testing.T) {
	r := newRing(t, nat.Of(1001))
	refused := func(n, m int) {
		t.Helper()
		d := newDrawer()
		if got, e := r.Prod(d.drawList(n), d.drawList(m)); got != zero || e != api.ErrArg {
			t.Errorf("Prod of %d bases and %d exps = %x %d, want ErrArg", n, m, got, e)
		}
	}
	for n := range most + 3 {
		for m := range most + 3 {
			if n != m {
				refused(n, m)
			}
		}
	}
	for _, n := range []int{65, 66, 128, 1000, 1 << 16} {
		refused(n, n)
	}
	sixtyFour := slices.Repeat([]api.Nat{{2}}, most)
	if got, e := r.Prod(sixtyFour, slices.Repeat([]api.Nat{one}, most)); got != r.Exp(nat.Of(2), nat.Of(most)) || e != api.OK {
		t.Errorf("Prod of 64 = %x %d", got, e)
	}
	// Zero exponents do not make room for one more.
	if got, e := r.Prod(slices.Repeat([]api.Nat{{2}}, most+1), make([]api.Nat, most+1)); got != zero || e != api.ErrArg {
		t.Errorf("Prod of 65 to the 0 = %x %d", got, e)
	}
}

// Mo2: what is handed in stays as it is, and what lies behind its end is not read.
func TestProdLeavesLists(t *testing.T) {
	d := newDrawer()
	r := newRing(t, d.drawOdd())
	bases, exps := d.drawList(20), d.drawList(20)
	basesToo, expsToo := slices.Clone(bases), slices.Clone(exps)
	checkProd(t, r, bases[:7], exps[:7])
	first, _ := r.Prod(bases[:7], exps[:7])
	if !slices.Equal(bases, basesToo) || !slices.Equal(exps, expsToo) {
		t.Error("Prod has changed what it was given")
	}
	if again, _ := r.Prod(slices.Clone(bases[:7]), slices.Clone(exps[:7])); again != first {
		t.Errorf("Prod hangs on more than its lists: %x, %x", first, again)
	}
	// What was handed in is not kept either.
	clear(bases)
	clear(exps)
	if again, _ := r.Prod(basesToo[:7], expsToo[:7]); again != first {
		t.Errorf("Prod hangs on lists of a call ahead: %x, %x", first, again)
	}
}

// The line behind Mo2: of a ring that New did not give, all is zero.
func TestRingNotGiven(t *testing.T) {
	refused, _ := mont.New(nat.Of(8))
	for name, r := range map[string]*mont.Ring{"nil": nil, "refused": refused, "literal": {}, "new": new(mont.Ring)} {
		if r.M() != zero {
			t.Errorf("%s: M = %x", name, r.M())
		}
		for _, a := range edges() {
			if r.In(a) || r.Form(a) != zero || r.Plain(a) != zero {
				t.Errorf("%s: of %x: %v, %x, %x", name, a, r.In(a), r.Form(a), r.Plain(a))
			}
			for _, b := range edges() {
				if r.Mul(a, b) != zero || r.Exp(a, b) != zero {
					t.Errorf("%s: of %x and %x: %x, %x", name, a, b, r.Mul(a, b), r.Exp(a, b))
				}
				if got, e := r.Prod([]api.Nat{a}, []api.Nat{b}); got != zero || e != api.ErrArg {
					t.Errorf("%s: Prod of %x and %x = %x %d", name, a, b, got, e)
				}
			}
		}
		if got, e := r.Prod(nil, nil); got != zero || e != api.ErrArg {
			t.Errorf("%s: Prod of none = %x %d", name, got, e)
		}
		if got, e := r.Prod(edges(), nil); got != zero || e != api.ErrArg {
			t.Errorf("%s: Prod of unlike lists = %x %d", name, got, e)
		}
	}
}

func checkPowersOfOneBase(t *testing.T, r *mont.Ring, a, e, f api.Nat) {
	t.Helper()
	sum, carry := nat.Add(e, f)
	if carry == 1 {
		return
	}
	whole := r.Exp(a, sum)
	if parts := r.Mul(r.Exp(a, e), r.Exp(a, f)); parts != whole {
		t.Errorf("%x to the %x and %x below %x: %x, but %x of the parts", a, e, f, r.M(), whole, parts)
	}
	if parts, err := r.Prod([]api.Nat{a, a}, []api.Nat{e, f}); parts != whole || err != api.OK {
		t.Errorf("%x to the %x and %x below %x: %x, but Prod %x %d", a, e, f, r.M(), whole, parts, err)
	}
}

// Mo3: powers of one base are multiplied when their exponents are added.
func TestPowersOfOneBase(t *testing.T) {
	for _, m := range odds() {
		r := newRing(t, m)
		for _, e := range exponents() {
			for _, f := range exponents() {
				checkPowersOfOneBase(t, r, api.Nat{2, 0, 5}, e, f)
			}
		}
	}
	d := newDrawer()
	for range 2000 {
		checkPowersOfOneBase(t, newRing(t, d.drawOdd()), d.draw(), d.draw(), d.draw())
	}
}

func checkPowerOfProduct(t *testing.T, r *mont.Ring, a, b, e api.Nat) {
	t.Helper()
	whole := r.Exp(r.Mul(a, b), e)
	if parts := r.Mul(r.Exp(a, e), r.Exp(b, e)); parts != whole {
		t.Errorf("%x times %x, to the %x below %x: %x, but %x of the parts", a, b, e, r.M(), whole, parts)
	}
	if parts, err := r.Prod([]api.Nat{a, b}, []api.Nat{e, e}); parts != whole || err != api.OK {
		t.Errorf("%x times %x, to the %x below %x: %x, but Prod %x %d", a, b, e, r.M(), whole, parts, err)
	}
}

// Mo3: a power of a product is the product of the powers.
func TestPowersOfProducts(t *testing.T) {
	for _, m := range odds() {
		r := newRing(t, m)
		for _, e := range exponents() {
			for _, a := range around(m) {
				checkPowerOfProduct(t, r, a, api.Nat{7, 1}, e)
			}
		}
	}
	d := newDrawer()
	for range 2000 {
		checkPowerOfProduct(t, newRing(t, d.drawOdd()), d.draw(), d.draw(), d.draw())
	}
}

// Mo3: below a prime, a base to the prime comes back.
func TestPrimesBringBack(t *testing.T) {
	for _, p := range []api.Nat{{3}, {7}, {65521}, {ones - 58}, {ones - 158, ones}, {ones - 188, ones, ones, ones}} {
		r := newRing(t, p)
		for _, a := range around(p) {
			if got := r.Exp(a, p); !isByM(got, toBig(a), p) {
				t.Errorf("%x to the prime %x = %x", a, p, got)
			}
		}
	}
}

// R4: one ring asked by many at once answers as if it were asked by one.
func TestRingIsShared(t *testing.T) {
	d := newDrawer()
	r := newRing(t, d.drawOdd())
	for k := range 8 {
		a, e := d.draw(), d.draw()
		t.Run(string(rune('a'+k)), func(t *testing.T) {
			t.Parallel()
			for range 20 {
				checkExp(t, r, a, e)
				checkMul(t, r, a, e)
			}
		})
	}
}

// natOf is a natural of bytes, cut or filled.
func natOf(s []byte) api.Nat {
	var a api.Nat
	for k, x := range s[:min(len(s), 32)] {
		a[k/8] |= uint64(x) << (k % 8 * 8)
	}
	return a
}

// FuzzMont looks for a ring, and naturals, at which a promise is broken.
func FuzzMont(f *testing.F) {
	f.Add([]byte{3}, []byte{2}, []byte{5})
	f.Add([]byte{0xe9, 3}, []byte{2}, []byte{10})
	f.Add([]byte{1}, []byte{1}, []byte{1})
	f.Fuzz(func(t *testing.T, low, middle, high []byte) {
		m, a, b := natOf(low), natOf(middle), natOf(high)
		r, e := mont.New(m)
		if m[0]%2 == 0 || m == one {
			if r != nil || e != api.ErrArg {
				t.Errorf("New(%x) = %v %d", m, r, e)
			}
			return
		}
		checkMul(t, r, a, b)
		checkForms(t, r, a)
		checkExp(t, r, a, b)
		checkProd(t, r, []api.Nat{a, b}, []api.Nat{b, a})
		checkPowersOfOneBase(t, r, a, b, a)
		checkPowerOfProduct(t, r, a, b, a)
	})
}
