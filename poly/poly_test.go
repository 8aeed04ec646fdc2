package poly_test

import (
	"math/big"
	"math/rand/v2"
	"slices"
	"testing"

	"sacristy/api"
	"sacristy/field"
	"sacristy/group"
	"sacristy/nat"
	"sacristy/poly"
)

const ones = 1<<64 - 1

var (
	zero = api.Nat{}
	one  = api.Nat{1}
	all  = api.Nat{ones, ones, ones, ones}
)

// toBig is what the limbs mean, told without the packages that are tested.
func toBig(a api.Nat) *big.Int {
	sum := new(big.Int)
	for k := api.Limbs - 1; k >= 0; k-- {
		sum.Lsh(sum, api.LimbBits)
		sum.Add(sum, new(big.Int).SetUint64(a[k]))
	}
	return sum
}

// fromBig is a number below 2^256, as limbs.
func fromBig(n *big.Int) api.Nat {
	rest := new(big.Int).Set(n)
	var a api.Nat
	for k := range a {
		a[k] = new(big.Int).And(rest, new(big.Int).SetUint64(ones)).Uint64()
		rest.Rsh(rest, api.LimbBits)
	}
	return a
}

// shows tells whether a is layer 4's witness that n is a prime, if f is.
func shows(n, f *big.Int, a int) bool {
	one := big.NewInt(1)
	less := new(big.Int).Sub(n, one)
	often := new(big.Int).Quo(less, f)
	witness := big.NewInt(int64(a))
	if new(big.Int).Exp(witness, less, n).Cmp(one) != 0 {
		return false
	}
	root := new(big.Int).Exp(witness, often, n)
	return new(big.Int).GCD(nil, nil, n, root.Sub(root, one)).Cmp(one) == 0
}

// nextLink is the link of a prime from about so many bits on that f makes; it has fewer than twice as many bits as f.
func nextLink(t testing.TB, f api.Nat, bits int) api.Link {
	t.Helper()
	bf := toBig(f)
	k := new(big.Int).Lsh(big.NewInt(1), uint(bits-1))
	k.Quo(k, bf)
	for range 1 << 14 {
		n := new(big.Int).Mul(k, bf)
		k.Add(k, big.NewInt(1))
		n.Add(n, big.NewInt(1))
		if n.BitLen() < bits || n.Bit(0) == 0 {
			continue
		}
		if n.BitLen() > api.MaxBits || n.Cmp(new(big.Int).Mul(bf, bf)) >= 0 {
			break
		}
		for a := 2; n.ProbablyPrime(0) && a < 100; a++ {
			if shows(n, bf, a) {
				return api.Link{N: fromBig(n), A: a}
			}
		}
	}
	t.Fatalf("%x makes no prime of %d bits", f, bits)
	return api.Link{}
}

// groupOf is a group of a chain from a small prime on, a link for each of bits.
func groupOf(t testing.TB, first int, bits ...int) *group.Group {
	t.Helper()
	l := []api.Link{{N: nat.Of(first)}}
	for _, b := range bits {
		l = append(l, nextLink(t, l[len(l)-1].N, b))
	}
	p, q := toBig(l[len(l)-1].N), toBig(l[len(l)-2].N)
	often := new(big.Int).Sub(p, big.NewInt(1))
	often.Quo(often, q)
	for n := int64(2); n < 100; n++ {
		spawner := new(big.Int).Exp(big.NewInt(n), often, p)
		if g, e := group.New(api.Params{Chain: l, G: fromBig(spawner)}); e == api.OK {
			return g
		}
	}
	t.Fatalf("nothing spawns a subgroup by %x", l)
	return nil
}

// given is a group whose parameters are right.
func given(t testing.TB, p api.Params) *group.Group {
	t.Helper()
	g, e := group.New(p)
	if e != api.OK {
		t.Fatalf("New(%x) = %d", p, e)
	}
	return g
}

// least is the group whose Q is the least that may be: all of its numbers can be tried.
func least(t testing.TB) *group.Group {
	t.Helper()
	return groupOf(t, 521, 11)
}

// manyGroups are groups whose Q has one limb to four, from the least to one of as many bits as there may be.
func manyGroups(t testing.TB) []*group.Group {
	t.Helper()
	return []*group.Group{
		least(t), given(t, group.Least()), given(t, group.Other()), given(t, group.Great()),
		groupOf(t, 65521, 17),
		groupOf(t, 65521, 31, 50, 64, 74),
		groupOf(t, 65521, 31, 50, 65, 75),
		groupOf(t, 32771, 30, 58, 100, 192, 256),
		groupOf(t, 65521, 31, 60, 110, 200, 246, 256),
		groupOf(t, 65521, 31, 60, 110, 200, 250, 256),
		greatest(t),
	}
}

// greatest is a group whose Q has 255 bits, as many as it may have: P is twice Q, and 1.
func greatest(t testing.TB) *group.Group {
	t.Helper()
	digits := []string{"65521", "1074282317", "576460780807958477", "649037107316878326410637878470751",
		"803469022129495137770981108568449884878255012103186407123779",
		"57896044618595922064977028148842967554791797017574897235716261396257767476009",
		"115792089237191844129954056297685935109583594035149794471432522792515534952019"}
	p := api.Params{G: nat.Of(4)}
	for k := range digits {
		n, _ := new(big.Int).SetString(digits[k], 10)
		p.Chain = append(p.Chain, api.Link{N: fromBig(n), A: 2 * min(k, 1)})
	}
	return given(t, p)
}

// less is Q without so many.
func less(g *group.Group, n int) api.Nat {
	rest, _ := nat.Sub(g.Q(), nat.Of(n))
	return rest
}

// edges are naturals about 0, Q, what goes over limbs, and the greatest there are.
func edges(g *group.Group) []api.Nat {
	q := g.Q()
	list := []api.Nat{zero, one, nat.Of(2), nat.Of(3), less(g, 2), less(g, 1), q, nat.Down(q, 1),
		{ones}, {0, 1}, {ones, ones}, {0, 0, 1}, {ones, ones, ones}, {0, 0, 0, 1}, {0, 0, 0, 1 << 63}, all, {ones - 1, ones, ones, ones}}
	last := new(big.Int).Quo(toBig(all), toBig(q))
	for _, often := range []*big.Int{big.NewInt(1), big.NewInt(2), last} {
		for d := int64(-1); d <= 1; d++ {
			n := new(big.Int).Mul(toBig(q), often)
			if n.Add(n, big.NewInt(d)); n.BitLen() <= api.MaxBits {
				list = append(list, fromBig(n))
			}
		}
	}
	return list
}

// drawer draws naturals of all lengths, one in four of them below Q.
func drawer(g *group.Group, r *rand.Rand) func() api.Nat {
	return func() api.Nat {
		a := api.Nat{r.Uint64(), r.Uint64(), r.Uint64(), r.Uint64()}
		if r.IntN(4) == 0 {
			return fromBig(new(big.Int).Mod(toBig(a), toBig(g.Q())))
		}
		return nat.Down(a, r.IntN(api.MaxBits))
	}
}

// maxPlaces is how many places the chapter lets a polynomial go through.
const maxPlaces = 32

// of are small numbers, as a polynomial or places.
func of(l ...int) []api.Nat {
	var list []api.Nat
	for _, n := range l {
		list = append(list, nat.Of(n))
	}
	return list
}

// bigs are the numbers of a list, by Q.
func bigs(g *group.Group, l []api.Nat) []*big.Int {
	var list []*big.Int
	for _, n := range l {
		list = append(list, new(big.Int).Mod(toBig(n), toBig(g.Q())))
	}
	return list
}

// want is the polynomial of coefficients without a bound, by the chapter's words.
func want(g *group.Group, l []*big.Int) []api.Nat {
	var list []api.Nat
	for k, n := range l {
		rest := new(big.Int).Mod(n, toBig(g.Q()))
		if rest.Sign() == 0 {
			continue
		}
		for len(list) < k {
			list = append(list, zero)
		}
		list = append(list, fromBig(rest))
	}
	return list
}

// wantEval is the sum of each coefficient times a place to its number, told power by power.
func wantEval(g *group.Group, f []api.Nat, x api.Nat) api.Nat {
	sum := new(big.Int)
	for k, n := range f {
		raised := new(big.Int).Exp(toBig(x), big.NewInt(int64(k)), toBig(g.Q()))
		sum.Add(sum, raised.Mul(raised, toBig(n)))
	}
	return fromBig(sum.Mod(sum, toBig(g.Q())))
}

// wantAdd is the sum of two polynomials.
func wantAdd(g *group.Group, a, b []api.Nat) []api.Nat {
	sums := make([]*big.Int, max(len(a), len(b)))
	for k := range sums {
		sums[k] = new(big.Int)
		if k < len(a) {
			sums[k].Add(sums[k], toBig(a[k]))
		}
		if k < len(b) {
			sums[k].Add(sums[k], toBig(b[k]))
		}
	}
	return want(g, sums)
}

// wantMul is the product of two polynomials.
func wantMul(g *group.Group, a, b []api.Nat) []api.Nat {
	sums := make([]*big.Int, len(a)+len(b))
	for k := range sums {
		sums[k] = new(big.Int)
	}
	for k := range a {
		for j := range b {
			sums[k+j].Add(sums[k+j], new(big.Int).Mul(toBig(a[k]), toBig(b[j])))
		}
	}
	return want(g, sums)
}

// wantThrough is the polynomial through places no two of which are the same, by the way of Lagrange.
func wantThrough(g *group.Group, xs, ys []api.Nat) []api.Nat {
	bx, by, q := bigs(g, xs), bigs(g, ys), toBig(g.Q())
	sums := make([]*big.Int, len(xs))
	for k := range sums {
		sums[k] = new(big.Int)
	}
	for k := range bx {
		row := []*big.Int{by[k]}
		for j := range bx {
			if j == k {
				continue
			}
			row = timesLine(row, bx[j], new(big.Int).ModInverse(new(big.Int).Sub(bx[k], bx[j]), q), q)
		}
		for j := range row {
			sums[j].Add(sums[j], row[j])
		}
	}
	return want(g, sums)
}

// timesLine is a polynomial, times x less a root, times a factor.
func timesLine(f []*big.Int, root, factor, q *big.Int) []*big.Int {
	list := make([]*big.Int, len(f)+1)
	for k := range list {
		list[k] = new(big.Int)
		if k > 0 {
			list[k].Add(list[k], f[k-1])
		}
		if k < len(f) {
			list[k].Sub(list[k], new(big.Int).Mul(f[k], root))
		}
		list[k].Mul(list[k], factor).Mod(list[k], q)
	}
	return list
}

// twice tells whether two places are the same by Q.
func twice(g *group.Group, xs []api.Nat) bool {
	seen := map[string]bool{}
	for _, x := range bigs(g, xs) {
		seen[x.String()] = true
	}
	return len(seen) < len(xs)
}

// checkTrimmed looks whether a polynomial that was told is of the field's numbers, and trimmed.
func checkTrimmed(t *testing.T, g *group.Group, f []api.Nat) {
	t.Helper()
	if len(f) > 0 && f[len(f)-1] == zero {
		t.Errorf("%x is not trimmed", f)
	}
	for _, n := range f {
		if toBig(n).Cmp(toBig(g.Q())) >= 0 {
			t.Errorf("%x is not below %x", n, g.Q())
		}
	}
}

// checkOne looks at what is asked of one polynomial, and whether it stays as it was.
func checkOne(t *testing.T, g *group.Group, f []api.Nat, xs ...api.Nat) {
	t.Helper()
	was := slices.Clone(f)
	got := poly.Trim(g, f)
	checkTrimmed(t, g, got)
	if right := want(g, bigs(g, f)); !slices.Equal(got, right) {
		t.Errorf("Trim(%x) by %x = %x, not %x", f, g.Q(), got, right)
	}
	for _, x := range xs {
		if y, right := poly.Eval(g, f, x), wantEval(g, f, x); y != right {
			t.Errorf("Eval(%x, %x) by %x = %x, not %x", f, x, g.Q(), y, right)
		}
	}
	if !slices.Equal(f, was) {
		t.Errorf("%x has become %x", was, f)
	}
}

// checkTwo looks at what is asked of two polynomials, and whether they stay as they were.
func checkTwo(t *testing.T, g *group.Group, a, b []api.Nat) {
	t.Helper()
	wasA, wasB := slices.Clone(a), slices.Clone(b)
	sum, product := poly.Add(g, a, b), poly.Mul(g, a, b)
	checkTrimmed(t, g, sum)
	checkTrimmed(t, g, product)
	if right := wantAdd(g, a, b); !slices.Equal(sum, right) {
		t.Errorf("Add(%x, %x) by %x = %x, not %x", a, b, g.Q(), sum, right)
	}
	if right := wantMul(g, a, b); !slices.Equal(product, right) {
		t.Errorf("Mul(%x, %x) by %x = %x, not %x", a, b, g.Q(), product, right)
	}
	checkDiv(t, g, a, b)
	if !slices.Equal(a, wasA) || !slices.Equal(b, wasB) {
		t.Errorf("%x and %x have become %x and %x", wasA, wasB, a, b)
	}
}

// checkDiv looks at Div: there is but one such pair of polynomials, so that they need no other model.
func checkDiv(t *testing.T, g *group.Group, a, b []api.Nat) {
	t.Helper()
	often, rest, e := poly.Div(g, a, b)
	by := want(g, bigs(g, b))
	if len(by) == 0 {
		if len(often) != 0 || len(rest) != 0 || e != api.ErrArg {
			t.Errorf("Div(%x, %x) by %x = %x, %x, %d", a, b, g.Q(), often, rest, e)
		}
		return
	}
	checkTrimmed(t, g, often)
	checkTrimmed(t, g, rest)
	back := wantAdd(g, wantMul(g, often, by), rest)
	if e != api.OK || len(rest) >= len(by) || !slices.Equal(back, want(g, bigs(g, a))) {
		t.Errorf("Div(%x, %x) by %x = %x, %x, %d", a, b, g.Q(), often, rest, e)
	}
}

// checkThrough looks at Through, and whether it leaves the lists as they were.
func checkThrough(t *testing.T, g *group.Group, xs, ys []api.Nat) {
	t.Helper()
	wasX, wasY := slices.Clone(xs), slices.Clone(ys)
	f, e := poly.Through(g, xs, ys)
	if len(xs) != len(ys) || len(xs) > maxPlaces || twice(g, xs) {
		if len(f) != 0 || e != api.ErrArg {
			t.Errorf("Through(%x, %x) by %x = %x, %d", xs, ys, g.Q(), f, e)
		}
	} else {
		checkTrimmed(t, g, f)
		if right := wantThrough(g, xs, ys); !slices.Equal(f, right) || len(f) > len(xs) || e != api.OK {
			t.Errorf("Through(%x, %x) by %x = %x, %d, not %x", xs, ys, g.Q(), f, e, right)
		}
		for k, y := range bigs(g, ys) {
			if wantEval(g, f, xs[k]) != fromBig(y) {
				t.Errorf("%x is not %x at %x, by %x", f, ys[k], xs[k], g.Q())
			}
		}
	}
	if !slices.Equal(xs, wasX) || !slices.Equal(ys, wasY) {
		t.Errorf("%x and %x have become %x and %x", wasX, wasY, xs, ys)
	}
}

// checkValues looks whether values of sums and products are sums and products of values.
func checkValues(t *testing.T, g *group.Group, a, b []api.Nat, x api.Nat) {
	t.Helper()
	ya, yb := poly.Eval(g, a, x), poly.Eval(g, b, x)
	if poly.Eval(g, poly.Add(g, a, b), x) != field.Add(g, ya, yb) {
		t.Errorf("the value of the sum of %x and %x at %x, by %x", a, b, x, g.Q())
	}
	if poly.Eval(g, poly.Mul(g, a, b), x) != field.Mul(g, ya, yb) {
		t.Errorf("the value of the product of %x and %x at %x, by %x", a, b, x, g.Q())
	}
	if poly.Eval(g, poly.Trim(g, a), x) != ya {
		t.Errorf("the value of %x at %x, trimmed, by %x", a, x, g.Q())
	}
}

// polyDrawer draws polynomials of up to so many coefficients, of which some at the end are 0, or 0 by Q.
func polyDrawer(g *group.Group, r *rand.Rand) func(most int) []api.Nat {
	draw := drawer(g, r)
	return func(most int) []api.Nat {
		var list []api.Nat
		for range r.IntN(most + 1) {
			if r.IntN(8) == 0 {
				list = append(list, zero)
				continue
			}
			list = append(list, draw())
		}
		if r.IntN(3) == 0 {
			for range r.IntN(len(list) + 1) {
				list = append(list[:len(list)-1], []api.Nat{zero, g.Q()}[r.IntN(2)])
			}
			slices.Reverse(list)
		}
		return list
	}
}

// places are so many that are not the same by Q.
func places(g *group.Group, r *rand.Rand, n int) []api.Nat {
	draw := drawer(g, r)
	seen := map[api.Nat]bool{}
	var list []api.Nat
	for len(list) < n {
		x := draw()
		rest := fromBig(new(big.Int).Mod(toBig(x), toBig(g.Q())))
		if !seen[rest] {
			seen[rest] = true
			list = append(list, x)
		}
	}
	return list
}

// Po2: the chapter's example, and what is known by heart.
func TestExamples(t *testing.T) {
	for _, g := range manyGroups(t) {
		if f, e := poly.Through(g, of(0, 1, 2), of(0, 1, 4)); !slices.Equal(f, of(0, 0, 1)) || e != api.OK {
			t.Errorf("the square by %x: %x, %d", g.Q(), f, e)
		}
		if f := poly.Mul(g, of(2, 1), of(3, 1)); !slices.Equal(f, of(6, 5, 1)) {
			t.Errorf("a product by %x: %x", g.Q(), f)
		}
		if often, rest, e := poly.Div(g, of(13, 5, 1), of(3, 1)); !slices.Equal(often, of(2, 1)) || !slices.Equal(rest, of(7)) || e != api.OK {
			t.Errorf("a quotient by %x: %x, %x, %d", g.Q(), often, rest, e)
		}
		if y := poly.Eval(g, of(1, 2, 3), nat.Of(10)); y != nat.Of(321) {
			t.Errorf("a value by %x: %x", g.Q(), y)
		}
	}
	g := least(t)
	if f := poly.Add(g, of(500, 20, 1), of(50, 501, 520)); !slices.Equal(f, of(29)) {
		t.Errorf("a sum by 521: %x", f)
	}
	if often, rest, e := poly.Div(g, of(1, 0, 1), of(0, 2)); !slices.Equal(often, of(0, 261)) || !slices.Equal(rest, of(1)) || e != api.OK {
		t.Errorf("a quotient by 521: %x, %x, %d", often, rest, e)
	}
}

// Po1: zeros at the end go, those of 0 by Q too, and others stay, by Q.
func TestTrim(t *testing.T) {
	for _, g := range manyGroups(t) {
		q := g.Q()
		more, _ := nat.Add(q, nat.Of(5))
		for _, c := range []struct{ f, want []api.Nat }{
			{nil, nil}, {[]api.Nat{}, nil}, {of(0), nil}, {of(0, 0, 0), nil}, {[]api.Nat{q}, nil}, {[]api.Nat{zero, q, zero, q}, nil},
			{of(1), of(1)}, {of(1, 0), of(1)}, {of(0, 1), of(0, 1)}, {of(0, 1, 0, 0), of(0, 1)}, {of(1, 0, 0, 2), of(1, 0, 0, 2)},
			{[]api.Nat{q, more, q}, of(0, 5)}, {[]api.Nat{more, zero, q}, of(5)}, {[]api.Nat{less(g, 1), more}, []api.Nat{less(g, 1), nat.Of(5)}},
		} {
			if got := poly.Trim(g, c.f); !slices.Equal(got, c.want) {
				t.Errorf("Trim(%x) by %x = %x, not %x", c.f, q, got, c.want)
			}
		}
	}
}

// Po1: long lists, of which all, or all but the first, are 0.
func TestTrimLong(t *testing.T) {
	g := given(t, group.Great())
	long := make([]api.Nat, 1<<17)
	if f := poly.Trim(g, long); len(f) != 0 {
		t.Errorf("Trim of zeros has %d coefficients", len(f))
	}
	if f := poly.Mul(g, long, long); len(f) != 0 {
		t.Errorf("Mul of zeros has %d coefficients", len(f))
	}
	if _, _, e := poly.Div(g, long, long); e != api.ErrArg {
		t.Errorf("Div of zeros = %d", e)
	}
	long[0] = nat.Of(3)
	if f := poly.Mul(g, long, long); !slices.Equal(f, of(9)) {
		t.Errorf("Mul of one coefficient has %d", len(f))
	}
	long[len(long)-1] = nat.Of(2)
	if f := poly.Add(g, long, of(4)); len(f) != len(long) || f[0] != nat.Of(7) || f[len(f)-1] != nat.Of(2) {
		t.Errorf("Add of a long one has %d coefficients", len(f))
	}
}

// Po1: what is told of one number, at the edges, and of a place there.
func TestEvalEdges(t *testing.T) {
	for _, g := range manyGroups(t) {
		list := edges(g)
		for _, n := range list {
			checkOne(t, g, []api.Nat{n}, list...)
			checkOne(t, g, []api.Nat{zero, n}, list...)
			checkOne(t, g, []api.Nat{n, n, n, all}, list...)
		}
		checkOne(t, g, list, list...)
	}
}

// Po1: at 0 it is the first coefficient, at 1 the sum of all, and of no coefficients it is 0.
func TestEvalByHeart(t *testing.T) {
	for _, g := range manyGroups(t) {
		f := []api.Nat{less(g, 1), less(g, 2), nat.Of(7), all}
		if y := poly.Eval(g, f, zero); y != less(g, 1) {
			t.Errorf("Eval at 0 by %x = %x", g.Q(), y)
		}
		if y := poly.Eval(g, f, g.Q()); y != less(g, 1) {
			t.Errorf("Eval at Q by %x = %x", g.Q(), y)
		}
		sum := field.Add(g, all, nat.Of(4))
		if y := poly.Eval(g, f, one); y != sum {
			t.Errorf("Eval at 1 by %x = %x, not %x", g.Q(), y, sum)
		}
		for _, x := range edges(g) {
			if poly.Eval(g, nil, x) != zero || poly.Eval(g, []api.Nat{}, x) != zero || poly.Eval(g, of(0, 0), x) != zero {
				t.Errorf("Eval of nothing at %x, by %x", x, g.Q())
			}
		}
	}
}

// Po1: all places of a small field.
func TestEvalEverywhere(t *testing.T) {
	r := rand.New(rand.NewPCG(12, 1))
	g := least(t)
	draw := polyDrawer(g, r)
	for range 3 {
		f := draw(12)
		for x := range 530 {
			checkOne(t, g, f, nat.Of(x))
		}
	}
}

// Po1: a value by many coefficients.
func TestEvalLong(t *testing.T) {
	for _, g := range manyGroups(t) {
		long := slices.Repeat(of(1), 5000)
		// The sum of a row of powers, as is known by heart.
		x := nat.Of(3)
		raised := g.Field().Exp(x, nat.Of(5000))
		sum := field.Mul(g, field.Sub(g, raised, one), field.Inv(g, nat.Of(2)))
		if y := poly.Eval(g, long, x); y != sum {
			t.Errorf("Eval of many by %x = %x, not %x", g.Q(), y, sum)
		}
	}
}

// Po1, Po2: all polynomials of up to three coefficients out of a few, each with each.
func TestAllOfAFew(t *testing.T) {
	g := least(t)
	few := of(0, 1, 2, 520, 521)
	lists := [][]api.Nat{nil}
	for _, a := range few {
		lists = append(lists, []api.Nat{a})
		for _, b := range few {
			lists = append(lists, []api.Nat{a, b})
			for _, c := range few {
				lists = append(lists, []api.Nat{a, b, c})
			}
		}
	}
	for _, a := range lists {
		checkOne(t, g, a, few...)
		for _, b := range lists {
			checkTwo(t, g, a, b)
		}
	}
}

// Po1, Po2: coefficients at the edges.
func TestEdges(t *testing.T) {
	for _, g := range manyGroups(t) {
		list := edges(g)
		for _, a := range list {
			for _, b := range list {
				checkTwo(t, g, []api.Nat{a}, []api.Nat{b})
				checkTwo(t, g, []api.Nat{b, one, a}, []api.Nat{a, b})
			}
		}
		checkTwo(t, g, list, list)
		checkTwo(t, g, list, list[:5])
		checkTwo(t, g, list[:5], list)
	}
}

// Po1, Po2, Po3: polynomials that are drawn.
func TestDrawn(t *testing.T) {
	r := rand.New(rand.NewPCG(12, 2))
	for _, g := range manyGroups(t) {
		draw, number := polyDrawer(g, r), drawer(g, r)
		for range 60 {
			a, b, x := draw(16), draw(16), number()
			checkOne(t, g, a, x)
			checkTwo(t, g, a, b)
			checkTwo(t, g, a, a)
			checkValues(t, g, a, b, x)
		}
	}
}

// Po1: sums whose last coefficients undo each other are trimmed.
func TestAddUndone(t *testing.T) {
	r := rand.New(rand.NewPCG(12, 3))
	for _, g := range manyGroups(t) {
		for n := range 8 {
			a := places(g, r, n)
			minus := make([]api.Nat, n)
			for k := range minus {
				minus[k] = field.Sub(g, zero, a[k])
			}
			if f := poly.Add(g, a, minus); len(f) != 0 {
				t.Errorf("%x and %x are %x, by %x", a, minus, f, g.Q())
			}
			for k := range minus {
				was := minus[k]
				minus[k] = field.Add(g, was, nat.Of(3))
				if f := poly.Add(g, a, minus); len(f) != k+1 || f[k] != nat.Of(3) {
					t.Errorf("%x and %x are %x, by %x", a, minus, f, g.Q())
				}
				minus[k] = was
			}
		}
	}
}

// Po1: the product has the coefficients of both, less one; by 0 none.
func TestMulLengths(t *testing.T) {
	for _, g := range manyGroups(t) {
		for n := range 9 {
			for m := range 9 {
				a, b := slices.Repeat([]api.Nat{less(g, 1)}, n), slices.Repeat([]api.Nat{less(g, 2)}, m)
				checkTwo(t, g, a, b)
				size := n + m - 1
				if n == 0 || m == 0 {
					size = 0
				}
				if f := poly.Mul(g, a, b); len(f) != size {
					t.Errorf("a product of %d and %d has %d coefficients", n, m, len(f))
				}
				if f := poly.Mul(g, append(a, zero, g.Q()), append(b, g.Q())); len(f) != size {
					t.Errorf("a product of %d and %d that are not trimmed has %d coefficients", n, m, len(f))
				}
			}
		}
	}
}

// Po2: Div by 0, however it is written; ErrArg, and nothing beside it.
func TestDivByNothing(t *testing.T) {
	for _, g := range manyGroups(t) {
		for _, a := range [][]api.Nat{nil, {}, of(0), of(1), of(1, 2, 3), {all, all}} {
			for _, b := range [][]api.Nat{nil, {}, of(0), of(0, 0, 0), {g.Q()}, {g.Q(), zero, g.Q()}} {
				if often, rest, e := poly.Div(g, a, b); len(often) != 0 || len(rest) != 0 || e != api.ErrArg {
					t.Errorf("Div(%x, %x) by %x = %x, %x, %d", a, b, g.Q(), often, rest, e)
				}
			}
		}
	}
}

// Po2: by a number, by itself, by one that has more coefficients; and 0 by all.
func TestDivByHeart(t *testing.T) {
	r := rand.New(rand.NewPCG(12, 4))
	for _, g := range manyGroups(t) {
		for n := 1; n < 8; n++ {
			a := places(g, r, n)
			a[n-1] = nat.Of(2)
			trimmed := poly.Trim(g, a)
			if often, rest, e := poly.Div(g, a, of(1)); !slices.Equal(often, trimmed) || len(rest) != 0 || e != api.OK {
				t.Errorf("%x by 1, by %x: %x, %x, %d", a, g.Q(), often, rest, e)
			}
			if often, rest, e := poly.Div(g, a, a); !slices.Equal(often, of(1)) || len(rest) != 0 || e != api.OK {
				t.Errorf("%x by itself, by %x: %x, %x, %d", a, g.Q(), often, rest, e)
			}
			longer := append(slices.Clone(a), one)
			if often, rest, e := poly.Div(g, a, longer); len(often) != 0 || !slices.Equal(rest, trimmed) || e != api.OK {
				t.Errorf("%x by %x, by %x: %x, %x, %d", a, longer, g.Q(), often, rest, e)
			}
			if often, rest, e := poly.Div(g, []api.Nat{zero, g.Q()}, a); len(often) != 0 || len(rest) != 0 || e != api.OK {
				t.Errorf("0 by %x, by %x: %x, %x, %d", a, g.Q(), often, rest, e)
			}
		}
	}
}

// Po2: what was made of how often and what is left, comes back as these.
func TestDivComesBack(t *testing.T) {
	r := rand.New(rand.NewPCG(12, 5))
	for _, g := range manyGroups(t) {
		draw := polyDrawer(g, r)
		for range 60 {
			b := append(draw(6), one)
			often := poly.Trim(g, draw(8))
			rest := poly.Trim(g, draw(len(b)-1))
			a := wantAdd(g, wantMul(g, often, b), rest)
			gotOften, gotRest, e := poly.Div(g, a, b)
			if !slices.Equal(gotOften, often) || !slices.Equal(gotRest, rest) || e != api.OK {
				t.Errorf("Div(%x, %x) by %x = %x, %x, %d, not %x, %x", a, b, g.Q(), gotOften, gotRest, e, often, rest)
			}
		}
	}
}

// Po2: as many places as there may be, from none on.
func TestThrough(t *testing.T) {
	r := rand.New(rand.NewPCG(12, 6))
	for _, g := range manyGroups(t) {
		draw := drawer(g, r)
		for n := range maxPlaces + 1 {
			if n > 12 && n < maxPlaces-1 && n%8 > 0 {
				continue
			}
			xs := places(g, r, n)
			ys := make([]api.Nat, n)
			checkThrough(t, g, xs, ys)
			for k := range ys {
				ys[k] = draw()
			}
			checkThrough(t, g, xs, ys)
		}
	}
}

// Po2: places and numbers at the edges; those that are the same by Q are refused.
func TestThroughEdges(t *testing.T) {
	for _, g := range manyGroups(t) {
		list := edges(g)
		for _, a := range list {
			checkThrough(t, g, []api.Nat{a}, []api.Nat{a})
			for _, b := range list {
				checkThrough(t, g, []api.Nat{a, b}, []api.Nat{b, a})
				checkThrough(t, g, []api.Nat{nat.Of(5), a, nat.Of(7), b}, []api.Nat{a, all, b, g.Q()})
			}
		}
		checkThrough(t, g, list, list)
	}
}

// Po2: two places that are the same, wherever they stand, even if the numbers there are the same.
func TestThroughTwice(t *testing.T) {
	r := rand.New(rand.NewPCG(12, 7))
	for _, g := range manyGroups(t) {
		for n := 2; n <= maxPlaces; n += 1 + n/3 {
			for range 6 {
				xs := places(g, r, n)
				a, b := r.IntN(n), r.IntN(n-1)
				if b >= a {
					b++
				}
				xs[a] = fromBig(bigs(g, xs)[b])
				ys := slices.Repeat(of(9), n)
				if f, e := poly.Through(g, xs, ys); len(f) != 0 || e != api.ErrArg {
					t.Errorf("Through(%x) by %x = %x, %d", xs, g.Q(), f, e)
				}
				more := new(big.Int).Add(toBig(xs[b]), toBig(g.Q()))
				if more.BitLen() > api.MaxBits {
					continue
				}
				xs[a] = fromBig(more)
				if f, e := poly.Through(g, xs, ys); len(f) != 0 || e != api.ErrArg {
					t.Errorf("Through(%x) by %x = %x, %d", xs, g.Q(), f, e)
				}
			}
		}
	}
}

// Po2: lists that are not as long, and those that are too long.
func TestThroughLengths(t *testing.T) {
	r := rand.New(rand.NewPCG(12, 8))
	for _, g := range manyGroups(t) {
		xs := places(g, r, maxPlaces+2)
		for n := range 6 {
			for m := range 6 {
				checkThrough(t, g, xs[:n], xs[:m])
			}
		}
		for _, n := range []int{maxPlaces - 1, maxPlaces, maxPlaces + 1, maxPlaces + 2} {
			for _, m := range []int{0, maxPlaces - 1, maxPlaces, maxPlaces + 1, maxPlaces + 2} {
				checkThrough(t, g, xs[:n], xs[:m])
				checkThrough(t, g, xs[:m], xs[:n])
			}
		}
		long := make([]api.Nat, 1<<16)
		for k := range long {
			long[k] = nat.Of(k)
		}
		if f, e := poly.Through(g, long, long); len(f) != 0 || e != api.ErrArg {
			t.Errorf("Through of many = %x, %d", f, e)
		}
	}
	if f, e := poly.Through(least(t), of(1), of()); len(f) != 0 || e != api.ErrArg {
		t.Errorf("Through of one and none = %x, %d", f, e)
	}
}

// Po2: through no places goes 0, through numbers 0 too, and through one number at all places that number.
func TestThroughByHeart(t *testing.T) {
	r := rand.New(rand.NewPCG(12, 9))
	for _, g := range manyGroups(t) {
		for _, xs := range [][]api.Nat{nil, {}} {
			for _, ys := range [][]api.Nat{nil, {}} {
				if f, e := poly.Through(g, xs, ys); len(f) != 0 || e != api.OK {
					t.Errorf("Through of none = %x, %d", f, e)
				}
			}
		}
		for n := 1; n <= maxPlaces; n += 5 {
			xs := places(g, r, n)
			if f, e := poly.Through(g, xs, slices.Repeat([]api.Nat{zero}, n)); len(f) != 0 || e != api.OK {
				t.Errorf("Through zeros = %x, %d", f, e)
			}
			if f, e := poly.Through(g, xs, slices.Repeat([]api.Nat{g.Q()}, n)); len(f) != 0 || e != api.OK {
				t.Errorf("Through zeros by Q = %x, %d", f, e)
			}
			if f, e := poly.Through(g, xs, slices.Repeat(of(7), n)); !slices.Equal(f, of(7)) || e != api.OK {
				t.Errorf("Through sevens = %x, %d", f, e)
			}
			line, e := poly.Through(g, xs, xs)
			if n > 1 && (!slices.Equal(line, of(0, 1)) || e != api.OK) {
				t.Errorf("Through places = %x, %d", line, e)
			}
		}
	}
}

// Po3: what goes through a polynomial's values at as many places as it has coefficients, or more, is that polynomial, in whatever order.
func TestThroughComesBack(t *testing.T) {
	r := rand.New(rand.NewPCG(12, 10))
	for _, g := range manyGroups(t) {
		draw := polyDrawer(g, r)
		for range 12 {
			f := draw(12)
			right := poly.Trim(g, f)
			for _, n := range []int{len(right), len(right) + 1, len(right) + 4, maxPlaces} {
				xs := places(g, r, n)
				ys := make([]api.Nat, n)
				for k := range ys {
					ys[k] = poly.Eval(g, f, xs[k])
				}
				if back, e := poly.Through(g, xs, ys); !slices.Equal(back, right) || e != api.OK {
					t.Errorf("%x came back as %x, %d, by %x", right, back, e, g.Q())
				}
				slices.Reverse(xs)
				slices.Reverse(ys)
				if back, e := poly.Through(g, xs, ys); !slices.Equal(back, right) || e != api.OK {
					t.Errorf("%x came back as %x, %d, by %x", right, back, e, g.Q())
				}
			}
		}
	}
}

// Po3: at places too few, what goes through them is another polynomial, with fewer coefficients.
func TestTooFewPlaces(t *testing.T) {
	r := rand.New(rand.NewPCG(12, 11))
	for _, g := range manyGroups(t) {
		for n := 2; n < 10; n++ {
			f := append(places(g, r, n-1), nat.Of(3))
			xs := places(g, r, n-1)
			ys := make([]api.Nat, n-1)
			for k := range ys {
				ys[k] = poly.Eval(g, f, xs[k])
			}
			if back, e := poly.Through(g, xs, ys); len(back) >= n || e != api.OK {
				t.Errorf("%x came back as %x, %d, by %x", f, back, e, g.Q())
			}
		}
	}
}

// Po3: values of sums and products, at the edges and everywhere in a small field.
func TestValues(t *testing.T) {
	r := rand.New(rand.NewPCG(12, 12))
	for _, g := range manyGroups(t) {
		draw := polyDrawer(g, r)
		for _, x := range edges(g) {
			checkValues(t, g, draw(8), draw(8), x)
			checkValues(t, g, edges(g), draw(8), x)
		}
	}
	g := least(t)
	draw := polyDrawer(g, r)
	for x := range 530 {
		checkValues(t, g, draw(6), draw(6), nat.Of(x))
	}
}

// Po1, Po2: without a group nothing is told.
func TestWithoutAGroup(t *testing.T) {
	refused, _ := group.New(api.Params{})
	lists := [][]api.Nat{nil, {}, of(0), of(1), of(1, 2), of(1, 1), {all, all, all}, make([]api.Nat, maxPlaces+1)}
	for _, g := range []*group.Group{nil, {}, new(group.Group), refused} {
		for _, a := range lists {
			if f := poly.Trim(g, a); len(f) != 0 {
				t.Errorf("Trim(%x) = %x", a, f)
			}
			for _, x := range []api.Nat{zero, one, all} {
				if y := poly.Eval(g, a, x); y != zero {
					t.Errorf("Eval(%x, %x) = %x", a, x, y)
				}
			}
			for _, b := range lists {
				if f := poly.Add(g, a, b); len(f) != 0 {
					t.Errorf("Add(%x, %x) = %x", a, b, f)
				}
				if f := poly.Mul(g, a, b); len(f) != 0 {
					t.Errorf("Mul(%x, %x) = %x", a, b, f)
				}
				if often, rest, e := poly.Div(g, a, b); len(often) != 0 || len(rest) != 0 || e != api.ErrArg {
					t.Errorf("Div(%x, %x) = %x, %x, %d", a, b, often, rest, e)
				}
				if f, e := poly.Through(g, a, b); len(f) != 0 || e != api.ErrArg {
					t.Errorf("Through(%x, %x) = %x, %d", a, b, f, e)
				}
			}
		}
	}
}

// Po1, Po2: what lies behind a list's end is neither read nor changed.
func TestRoomBehind(t *testing.T) {
	for _, g := range manyGroups(t) {
		a := []api.Nat{nat.Of(2), nat.Of(3), nat.Of(4), all, g.Q(), one}
		b := []api.Nat{nat.Of(5), nat.Of(7), nat.Of(1), all, one, all}
		wasA, wasB := slices.Clone(a), slices.Clone(b)
		for n := range 4 {
			for m := range 4 {
				checkOne(t, g, a[:n], one, nat.Of(3))
				checkTwo(t, g, a[:n], b[:m])
				checkThrough(t, g, a[:n], b[:m])
			}
		}
		if !slices.Equal(a, wasA) || !slices.Equal(b, wasB) {
			t.Errorf("%x and %x have become %x and %x", wasA, wasB, a, b)
		}
	}
}

// fill writes over all of a list's memory, behind its end too.
func fill(f []api.Nat) {
	for k := range f[:cap(f)] {
		f[:cap(f)][k] = all
	}
}

// Po1, Po2: what is told is new memory: writing there shows neither in what was handed in, nor in what is told beside it, nor later.
func TestNewMemory(t *testing.T) {
	for _, g := range manyGroups(t) {
		a, b := of(2, 3, 4), of(5, 1)
		for range 2 {
			sum, same := poly.Add(g, a, b), poly.Add(g, a, nil)
			fill(same)
			product, by1 := poly.Mul(g, a, b), poly.Mul(g, a, of(1))
			fill(by1)
			trimmed := poly.Trim(g, a)
			often, rest, _ := poly.Div(g, a, b)
			less, left, _ := poly.Div(g, b, a)
			fill(left)
			f, _ := poly.Through(g, a, a)
			if !slices.Equal(sum, of(7, 4, 4)) || !slices.Equal(product, of(10, 17, 23, 4)) || !slices.Equal(trimmed, a) || len(less) != 0 || !slices.Equal(f, of(0, 1)) {
				t.Errorf("by %x: %x, %x, %x, %x, %x", g.Q(), sum, product, trimmed, less, f)
			}
			fill(often)
			if right := wantAdd(g, of(87), nil); !slices.Equal(rest, right) {
				t.Errorf("what is left became %x by %x, not %x", rest, g.Q(), right)
			}
			for _, l := range [][]api.Nat{sum, product, trimmed, rest, f} {
				fill(l)
			}
			if !slices.Equal(a, of(2, 3, 4)) || !slices.Equal(b, of(5, 1)) {
				t.Fatalf("%x and %x are shared", a, b)
			}
		}
	}
}

// cut are polynomials and places out of bytes: a number of numbers, and as many bytes for each as make edges likely.
func cut(g *group.Group, bytes []byte) []api.Nat {
	list := edges(g)
	var out []api.Nat
	for _, b := range bytes {
		if int(b) < len(list) {
			out = append(out, list[b])
			continue
		}
		out = append(out, nat.Of(int(b)))
	}
	return out
}

// FuzzPoly looks for polynomials and places at which something goes wrong.
func FuzzPoly(f *testing.F) {
	f.Add(0, []byte{}, []byte{}, uint64(0), uint64(0))
	f.Add(1, []byte{100, 101, 102}, []byte{100, 0, 4}, uint64(5), uint64(7))
	f.Add(3, []byte{4, 5, 6, 7}, []byte{4, 5, 6, 7, 8, 9}, uint64(ones), uint64(ones))
	f.Add(10, []byte{1, 6, 0}, []byte{200, 201, 3}, uint64(1), uint64(0))
	groups := manyGroups(f)
	f.Fuzz(func(t *testing.T, which int, first, second []byte, low, high uint64) {
		g := groups[uint(which)%uint(len(groups))]
		a, b := cut(g, first[:min(len(first), 40)]), cut(g, second[:min(len(second), 40)])
		x := api.Nat{low, high, high, low}
		checkOne(t, g, a, x)
		checkTwo(t, g, a, b)
		checkTwo(t, g, b, append(a, x))
		checkValues(t, g, a, b, x)
		checkThrough(t, g, a, b)
		n := min(len(a), len(b))
		checkThrough(t, g, a[:n], b[:n])
		checkThrough(t, g, append(slices.Clone(a[:n]), x), append(slices.Clone(b[:n]), x))
	})
}
