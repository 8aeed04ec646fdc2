package field_test

import (
	"math/big"
	"math/rand/v2"
	"slices"
	"testing"

	"sacristy/api"
	"sacristy/field"
	"sacristy/group"
	"sacristy/nat"
)

const ones = 1<<64 - 1

var (
	zero = api.Nat{}
	one  = api.Nat{1}
	all  = api.Nat{ones, ones, ones, ones}
)

// toBig is what the limbs mean, told without the packages that are tested.
func toBig(a api.Nat) *big.Int {
	sum := new(big.Int)
	for k := api.Limbs - 1; k >= 0; k-- {
		sum.Lsh(sum, api.LimbBits)
		sum.Add(sum, new(big.Int).SetUint64(a[k]))
	}
	return sum
}

// fromBig is a number below 2^256, as limbs.
func fromBig(n *big.Int) api.Nat {
	rest := new(big.Int).Set(n)
	var a api.Nat
	for k := range a {
		a[k] = new(big.Int).And(rest, new(big.Int).SetUint64(ones)).Uint64()
		rest.Rsh(rest, api.LimbBits)
	}
	return a
}

// shows tells whether a is layer 4's witness that n is a prime, if f is.
func shows(n, f *big.Int, a int) bool {
	one := big.NewInt(1)
	less := new(big.Int).Sub(n, one)
	often := new(big.Int).Quo(less, f)
	witness := big.NewInt(int64(a))
	if new(big.Int).Exp(witness, less, n).Cmp(one) != 0 {
		return false
	}
	root := new(big.Int).Exp(witness, often, n)
	return new(big.Int).GCD(nil, nil, n, root.Sub(root, one)).Cmp(one) == 0
}

// nextLink is the link of a prime from about so many bits on that f makes; it has fewer than twice as many bits as f.
func nextLink(t testing.TB, f api.Nat, bits int) api.Link {
	t.Helper()
	bf := toBig(f)
	k := new(big.Int).Lsh(big.NewInt(1), uint(bits-1))
	k.Quo(k, bf)
	for range 1 << 14 {
		n := new(big.Int).Mul(k, bf)
		k.Add(k, big.NewInt(1))
		n.Add(n, big.NewInt(1))
		if n.BitLen() < bits || n.Bit(0) == 0 {
			continue
		}
		if n.BitLen() > api.MaxBits || n.Cmp(new(big.Int).Mul(bf, bf)) >= 0 {
			break
		}
		for a := 2; n.ProbablyPrime(0) && a < 100; a++ {
			if shows(n, bf, a) {
				return api.Link{N: fromBig(n), A: a}
			}
		}
	}
	t.Fatalf("%x makes no prime of %d bits", f, bits)
	return api.Link{}
}

// groupOf is a group of a chain from a small prime on, a link for each of bits.
func groupOf(t testing.TB, first int, bits ...int) *group.Group {
	t.Helper()
	l := []api.Link{{N: nat.Of(first)}}
	for _, b := range bits {
		l = append(l, nextLink(t, l[len(l)-1].N, b))
	}
	p, q := toBig(l[len(l)-1].N), toBig(l[len(l)-2].N)
	often := new(big.Int).Sub(p, big.NewInt(1))
	often.Quo(often, q)
	for n := int64(2); n < 100; n++ {
		spawner := new(big.Int).Exp(big.NewInt(n), often, p)
		if g, e := group.New(api.Params{Chain: l, G: fromBig(spawner)}); e == api.OK {
			return g
		}
	}
	t.Fatalf("nothing spawns a subgroup by %x", l)
	return nil
}

// given is a group whose parameters are right.
func given(t testing.TB, p api.Params) *group.Group {
	t.Helper()
	g, e := group.New(p)
	if e != api.OK {
		t.Fatalf("New(%x) = %d", p, e)
	}
	return g
}

// least is the group whose Q is the least that may be: all of its numbers can be tried.
func least(t testing.TB) *group.Group {
	t.Helper()
	return groupOf(t, 521, 11)
}

// manyGroups are groups whose Q has one limb to four, from the least to one of as many bits as there may be.
func manyGroups(t testing.TB) []*group.Group {
	t.Helper()
	return []*group.Group{
		least(t), given(t, group.Least()), given(t, group.Other()), given(t, group.Great()),
		groupOf(t, 65521, 17),
		groupOf(t, 65521, 31, 50, 64, 74),
		groupOf(t, 65521, 31, 50, 65, 75),
		groupOf(t, 32771, 30, 58, 100, 192, 256),
		groupOf(t, 65521, 31, 60, 110, 200, 246, 256),
		groupOf(t, 65521, 31, 60, 110, 200, 250, 256),
		greatest(t),
	}
}

// greatest is a group whose Q has 255 bits, as many as it may have: P is twice Q, and 1.
func greatest(t testing.TB) *group.Group {
	t.Helper()
	digits := []string{"65521", "1074282317", "576460780807958477", "649037107316878326410637878470751",
		"803469022129495137770981108568449884878255012103186407123779",
		"57896044618595922064977028148842967554791797017574897235716261396257767476009",
		"115792089237191844129954056297685935109583594035149794471432522792515534952019"}
	p := api.Params{G: nat.Of(4)}
	for k := range digits {
		n, _ := new(big.Int).SetString(digits[k], 10)
		p.Chain = append(p.Chain, api.Link{N: fromBig(n), A: 2 * min(k, 1)})
	}
	return given(t, p)
}

// less is Q without so many.
func less(g *group.Group, n int) api.Nat {
	rest, _ := nat.Sub(g.Q(), nat.Of(n))
	return rest
}

// edges are naturals about 0, Q, what goes over limbs, and the greatest there are.
func edges(g *group.Group) []api.Nat {
	q := g.Q()
	list := []api.Nat{zero, one, nat.Of(2), nat.Of(3), less(g, 2), less(g, 1), q, nat.Down(q, 1),
		{ones}, {0, 1}, {ones, ones}, {0, 0, 1}, {ones, ones, ones}, {0, 0, 0, 1}, {0, 0, 0, 1 << 63}, all, {ones - 1, ones, ones, ones}}
	last := new(big.Int).Quo(toBig(all), toBig(q))
	for _, often := range []*big.Int{big.NewInt(1), big.NewInt(2), last} {
		for d := int64(-1); d <= 1; d++ {
			n := new(big.Int).Mul(toBig(q), often)
			if n.Add(n, big.NewInt(d)); n.BitLen() <= api.MaxBits {
				list = append(list, fromBig(n))
			}
		}
	}
	return list
}

// drawer draws naturals of all lengths, one in four of them below Q.
func drawer(g *group.Group, r *rand.Rand) func() api.Nat {
	return func() api.Nat {
		a := api.Nat{r.Uint64(), r.Uint64(), r.Uint64(), r.Uint64()}
		if r.IntN(4) == 0 {
			return fromBig(new(big.Int).Mod(toBig(a), toBig(g.Q())))
		}
		return nat.Down(a, r.IntN(api.MaxBits))
	}
}

// byQ is a number without a bound, by Q.
func byQ(g *group.Group, n *big.Int) api.Nat {
	return fromBig(new(big.Int).Mod(n, toBig(g.Q())))
}

// wantInv is what Fi1 says of Inv.
func wantInv(g *group.Group, a api.Nat) api.Nat {
	inverse := new(big.Int).ModInverse(toBig(a), toBig(g.Q()))
	if inverse == nil {
		return zero
	}
	return fromBig(inverse)
}

// checkOne looks at what is asked of one natural.
func checkOne(t *testing.T, g *group.Group, a api.Nat) {
	t.Helper()
	if got, want := field.In(g, a), toBig(a).Cmp(toBig(g.Q())) < 0; got != want {
		t.Errorf("In(%x) by %x = %t", a, g.Q(), got)
	}
	if got, want := field.Inv(g, a), wantInv(g, a); got != want {
		t.Errorf("Inv(%x) by %x = %x, not %x", a, g.Q(), got, want)
	}
}

// checkTwo looks at what is asked of two naturals.
func checkTwo(t *testing.T, g *group.Group, a, b api.Nat) {
	t.Helper()
	ba, bb := toBig(a), toBig(b)
	if got, want := field.Add(g, a, b), byQ(g, new(big.Int).Add(ba, bb)); got != want {
		t.Errorf("Add(%x, %x) by %x = %x, not %x", a, b, g.Q(), got, want)
	}
	if got, want := field.Sub(g, a, b), byQ(g, new(big.Int).Sub(ba, bb)); got != want {
		t.Errorf("Sub(%x, %x) by %x = %x, not %x", a, b, g.Q(), got, want)
	}
	if got, want := field.Mul(g, a, b), byQ(g, new(big.Int).Mul(ba, bb)); got != want {
		t.Errorf("Mul(%x, %x) by %x = %x, not %x", a, b, g.Q(), got, want)
	}
}

// checkDot looks at Dot, and whether it leaves the lists as they were.
func checkDot(t *testing.T, g *group.Group, a, b []api.Nat) {
	t.Helper()
	wasA, wasB := slices.Clone(a), slices.Clone(b)
	want, wantErr := zero, api.ErrArg
	if len(a) == len(b) {
		sum := new(big.Int)
		for k := range a {
			sum.Add(sum, new(big.Int).Mul(toBig(a[k]), toBig(b[k])))
		}
		want, wantErr = byQ(g, sum), api.OK
	}
	if got, e := field.Dot(g, a, b); got != want || e != wantErr {
		t.Errorf("Dot(%x, %x) by %x = %x, %d, not %x, %d", a, b, g.Q(), got, e, want, wantErr)
	}
	if !slices.Equal(a, wasA) || !slices.Equal(b, wasB) {
		t.Errorf("%x and %x have become %x and %x", wasA, wasB, a, b)
	}
}

// checkLaws looks whether what Fi3 says holds of three naturals.
func checkLaws(t *testing.T, g *group.Group, a, b, c api.Nat) {
	t.Helper()
	add := func(a, b api.Nat) api.Nat { return field.Add(g, a, b) }
	mul := func(a, b api.Nat) api.Nat { return field.Mul(g, a, b) }
	if add(a, b) != add(b, a) || add(add(a, b), c) != add(a, add(b, c)) {
		t.Errorf("sums of %x, %x, %x by %x hang on the order", a, b, c, g.Q())
	}
	if mul(a, b) != mul(b, a) || mul(mul(a, b), c) != mul(a, mul(b, c)) {
		t.Errorf("products of %x, %x, %x by %x hang on the order", a, b, c, g.Q())
	}
	if mul(a, add(b, c)) != add(mul(a, b), mul(a, c)) || mul(a, field.Sub(g, b, c)) != field.Sub(g, mul(a, b), mul(a, c)) {
		t.Errorf("the product of %x does not go over the sum of %x and %x by %x", a, b, c, g.Q())
	}
	rest := byQ(g, toBig(a))
	if add(a, zero) != rest || mul(a, one) != rest || mul(a, zero) != zero || field.Sub(g, a, a) != zero || add(field.Sub(g, a, b), b) != rest {
		t.Errorf("0 and 1 do something to %x by %x", a, g.Q())
	}
	want := one
	if rest == zero {
		want = zero
	}
	if inverse := field.Inv(g, a); mul(inverse, a) != want || !field.In(g, inverse) || field.Inv(g, inverse) != rest {
		t.Errorf("%x is no inverse of %x by %x", inverse, a, g.Q())
	}
}

// Fi1: the chapter's example, and what is known by heart.
func TestExamples(t *testing.T) {
	for _, g := range manyGroups(t) {
		if field.Inv(g, one) != one || field.Inv(g, less(g, 1)) != less(g, 1) {
			t.Errorf("inverses of 1, and of one less than %x", g.Q())
		}
		half := nat.Down(g.Q(), 1)
		half, _ = nat.Add(half, one)
		if field.Inv(g, nat.Of(2)) != half || field.Add(g, half, half) != one {
			t.Errorf("the inverse of 2 by %x", g.Q())
		}
		if field.Sub(g, zero, one) != less(g, 1) || field.Add(g, less(g, 1), one) != zero || field.Mul(g, less(g, 1), less(g, 1)) != one {
			t.Errorf("one below 0 by %x", g.Q())
		}
	}
	g := least(t)
	if q, _ := nat.Int(g.Q()); q != 521 {
		t.Fatalf("the least Q is %d", q)
	}
	if field.Add(g, nat.Of(500), nat.Of(50)) != nat.Of(29) || field.Sub(g, nat.Of(50), nat.Of(500)) != nat.Of(71) ||
		field.Mul(g, nat.Of(30), nat.Of(20)) != nat.Of(79) || field.Inv(g, nat.Of(3)) != nat.Of(174) {
		t.Error("numbers by 521")
	}
	if sum, e := field.Dot(g, []api.Nat{{30}, {2}}, []api.Nat{{20}, {500}}); sum != nat.Of(37) || e != api.OK {
		t.Errorf("a sum of products by 521: %x, %d", sum, e)
	}
}

// Fi1: In is asked about Q, not about P.
func TestInEdges(t *testing.T) {
	for _, g := range manyGroups(t) {
		if !field.In(g, zero) || !field.In(g, one) || !field.In(g, less(g, 1)) || field.In(g, g.Q()) || field.In(g, g.P()) || field.In(g, all) {
			t.Errorf("what is below %x", g.Q())
		}
		more, _ := nat.Add(g.Q(), one)
		if field.In(g, more) {
			t.Errorf("%x is below %x", more, g.Q())
		}
		for k := range api.Limbs {
			high := zero
			high[k] = ones
			if field.In(g, high) != (toBig(high).Cmp(toBig(g.Q())) < 0) {
				t.Errorf("In(%x) by %x", high, g.Q())
			}
		}
	}
}

// Fi1: all numbers of a small field, and some beyond it.
func TestAllOfASmallField(t *testing.T) {
	g := least(t)
	q, _ := nat.Int(g.Q())
	for a := range 2*q + 3 {
		checkOne(t, g, nat.Of(a))
	}
	for a := range q + 2 {
		for b := range q + 2 {
			if field.Add(g, nat.Of(a), nat.Of(b)) != nat.Of((a+b)%q) || field.Mul(g, nat.Of(a), nat.Of(b)) != nat.Of(a*b%q) ||
				field.Sub(g, nat.Of(a), nat.Of(b)) != nat.Of((a-b+2*q)%q) {
				t.Fatalf("%d and %d by %d", a, b, q)
			}
		}
	}
}

// Fi1: at the edges, each with each; what is not below Q counts as what it is by Q.
func TestEdges(t *testing.T) {
	for _, g := range manyGroups(t) {
		list := edges(g)
		for _, a := range list {
			checkOne(t, g, a)
			for _, b := range list {
				checkTwo(t, g, a, b)
			}
		}
	}
}

// Fi1: what is 0 by Q has no inverse: 0 is told.
func TestInvOfNothing(t *testing.T) {
	r := rand.New(rand.NewPCG(8, 256))
	for _, g := range manyGroups(t) {
		often := new(big.Int).Quo(toBig(all), toBig(g.Q()))
		for range 20 {
			drawn := new(big.Int).Mod(toBig(api.Nat{r.Uint64(), r.Uint64(), r.Uint64(), r.Uint64()}), often)
			times := fromBig(drawn.Mul(drawn, toBig(g.Q())))
			if got := field.Inv(g, times); got != zero {
				t.Errorf("Inv(%x) by %x = %x", times, g.Q(), got)
			}
		}
		if field.Inv(g, zero) != zero || field.Inv(g, g.Q()) != zero {
			t.Errorf("the inverse of 0 by %x", g.Q())
		}
	}
}

// Fi1: naturals that are drawn.
func TestDrawn(t *testing.T) {
	r := rand.New(rand.NewPCG(8, 257))
	for _, g := range manyGroups(t) {
		draw := drawer(g, r)
		for range 500 {
			a, b := draw(), draw()
			checkOne(t, g, a)
			checkTwo(t, g, a, b)
		}
	}
}

// Fi2: lists of all lengths from none on, and at the edges.
func TestDot(t *testing.T) {
	r := rand.New(rand.NewPCG(8, 258))
	for _, g := range manyGroups(t) {
		draw := drawer(g, r)
		for n := range 30 {
			a, b := make([]api.Nat, n), make([]api.Nat, n)
			checkDot(t, g, a, b)
			for k := range n {
				a[k], b[k] = draw(), draw()
			}
			checkDot(t, g, a, b)
			checkDot(t, g, a, a)
		}
		list := edges(g)
		turned := slices.Clone(list)
		slices.Reverse(turned)
		checkDot(t, g, list, list)
		checkDot(t, g, list, turned)
		checkDot(t, g, slices.Repeat([]api.Nat{all}, 1000), slices.Repeat([]api.Nat{all}, 1000))
		checkDot(t, g, slices.Repeat([]api.Nat{less(g, 1)}, 1000), slices.Repeat([]api.Nat{less(g, 1)}, 1000))
	}
}

// Fi2: each is multiplied with the one at its place, and each counts.
func TestDotPlaces(t *testing.T) {
	g := given(t, group.Least())
	for n := 1; n < 10; n++ {
		a := make([]api.Nat, n)
		for k := range n {
			a[k] = nat.Of(1000 + k)
		}
		for k := range n {
			b := make([]api.Nat, n)
			b[k] = one
			if got, e := field.Dot(g, a, b); got != a[k] || e != api.OK {
				t.Errorf("the place %d of %d: %x, %d", k, n, got, e)
			}
			if got, e := field.Dot(g, b, a); got != a[k] || e != api.OK {
				t.Errorf("the place %d of %d, turned: %x, %d", k, n, got, e)
			}
		}
	}
}

// Fi2: of none it is 0, whether a list is nil or empty.
func TestDotOfNone(t *testing.T) {
	for _, g := range manyGroups(t) {
		for _, a := range [][]api.Nat{nil, {}} {
			for _, b := range [][]api.Nat{nil, {}} {
				if got, e := field.Dot(g, a, b); got != zero || e != api.OK {
					t.Errorf("Dot of none = %x, %d", got, e)
				}
			}
		}
	}
}

// Fi2: lists that are not as long are refused, whatever is in them.
func TestDotLengths(t *testing.T) {
	for _, g := range manyGroups(t) {
		for n := range 6 {
			for m := range 6 {
				checkDot(t, g, make([]api.Nat, n), make([]api.Nat, m))
				checkDot(t, g, slices.Repeat([]api.Nat{{5}}, n), slices.Repeat([]api.Nat{{7}}, m))
			}
		}
		got, e := field.Dot(g, []api.Nat{one, one}, []api.Nat{one})
		if got != zero || e != api.ErrArg {
			t.Errorf("Dot of two and one = %x, %d", got, e)
		}
	}
}

// Fi2: what lies behind the ends of lists is neither looked at nor changed.
func TestDotBehindTheEnd(t *testing.T) {
	g := given(t, group.Other())
	a := []api.Nat{nat.Of(2), nat.Of(3), all, all}
	b := []api.Nat{nat.Of(5), nat.Of(7), all, all}
	wasA, wasB := slices.Clone(a), slices.Clone(b)
	if got, e := field.Dot(g, a[:2], b[:2]); got != nat.Of(31) || e != api.OK {
		t.Errorf("Dot = %x, %d", got, e)
	}
	if got, e := field.Dot(g, a[:1], b[:2]); got != zero || e != api.ErrArg {
		t.Errorf("Dot of one and two = %x, %d", got, e)
	}
	if !slices.Equal(a, wasA) || !slices.Equal(b, wasB) {
		t.Errorf("%x and %x have become %x and %x", wasA, wasB, a, b)
	}
}

// Fi1, Fi2: without a group nothing is told.
func TestWithoutAGroup(t *testing.T) {
	refused, _ := group.New(api.Params{})
	for _, g := range []*group.Group{nil, {}, new(group.Group), refused} {
		for _, a := range []api.Nat{zero, one, nat.Of(2), all} {
			if field.In(g, a) || field.Inv(g, a) != zero {
				t.Errorf("something is told of %x", a)
			}
			for _, b := range []api.Nat{zero, one, nat.Of(2), all} {
				if field.Add(g, a, b) != zero || field.Sub(g, a, b) != zero || field.Mul(g, a, b) != zero {
					t.Errorf("something is told of %x and %x", a, b)
				}
				if got, e := field.Dot(g, []api.Nat{a}, []api.Nat{b}); got != zero || e != api.ErrArg {
					t.Errorf("Dot(%x, %x) = %x, %d", a, b, got, e)
				}
			}
		}
		for _, a := range [][]api.Nat{nil, {}, {one}} {
			for _, b := range [][]api.Nat{nil, {}, {one}} {
				if got, e := field.Dot(g, a, b); got != zero || e != api.ErrArg {
					t.Errorf("Dot(%x, %x) = %x, %d", a, b, got, e)
				}
			}
		}
	}
}

// Fi3: at the edges, three by three.
func TestLawsAtTheEdges(t *testing.T) {
	for _, g := range []*group.Group{least(t), given(t, group.Least()), given(t, group.Great())} {
		list := edges(g)
		for _, a := range list {
			for _, b := range list {
				for _, c := range list {
					checkLaws(t, g, a, b, c)
				}
			}
		}
	}
}

// Fi3: naturals that are drawn.
func TestLawsDrawn(t *testing.T) {
	r := rand.New(rand.NewPCG(8, 259))
	for _, g := range manyGroups(t) {
		draw := drawer(g, r)
		for range 500 {
			checkLaws(t, g, draw(), draw(), draw())
		}
	}
}

// Fi3: all that is not 0 has an inverse of its own.
func TestInversesOfASmallField(t *testing.T) {
	for _, g := range []*group.Group{least(t), groupOf(t, 65521, 17)} {
		q, _ := nat.Int(g.Q())
		seen := make([]int, q)
		for a := 1; a < q; a++ {
			inverse := field.Inv(g, nat.Of(a))
			n, fits := nat.Int(inverse)
			if !fits || n >= q || field.Mul(g, inverse, nat.Of(a)) != one {
				t.Fatalf("Inv(%d) by %d = %x", a, q, inverse)
			}
			seen[n]++
		}
		for a := 1; a < q; a++ {
			if seen[a] != 1 {
				t.Errorf("%d is the inverse of %d by %d", a, seen[a], q)
			}
		}
	}
}

// Fi2, Fi3: a sum of products is no other in another order, and goes over sums of lists.
func TestDotLaws(t *testing.T) {
	r := rand.New(rand.NewPCG(8, 260))
	for _, g := range manyGroups(t) {
		draw := drawer(g, r)
		for range 50 {
			n := r.IntN(12)
			a, b, c, sums := make([]api.Nat, n), make([]api.Nat, n), make([]api.Nat, n), make([]api.Nat, n)
			for k := range n {
				a[k], b[k], c[k] = draw(), draw(), draw()
				sums[k] = field.Add(g, b[k], c[k])
			}
			first, _ := field.Dot(g, a, b)
			second, _ := field.Dot(g, a, c)
			both, _ := field.Dot(g, a, sums)
			turned, _ := field.Dot(g, b, a)
			slices.Reverse(a)
			slices.Reverse(b)
			reversed, _ := field.Dot(g, a, b)
			if turned != first || reversed != first || both != field.Add(g, first, second) {
				t.Errorf("sums of products of %x and %x by %x", a, b, g.Q())
			}
		}
	}
}

// FuzzField looks for naturals at which the field goes wrong.
func FuzzField(f *testing.F) {
	f.Add(0, uint64(0), uint64(0), uint64(0), uint64(0), uint64(1), uint64(0), uint64(0), uint64(0))
	f.Add(1, uint64(1966023127), uint64(0), uint64(0), uint64(0), uint64(ones), uint64(0), uint64(0), uint64(0))
	f.Add(2, uint64(ones), uint64(ones), uint64(ones), uint64(ones), uint64(ones), uint64(ones), uint64(ones), uint64(ones))
	f.Add(3, uint64(521), uint64(0), uint64(0), uint64(1), uint64(520), uint64(7), uint64(0), uint64(1)<<63)
	groups := manyGroups(f)
	f.Fuzz(func(t *testing.T, which int, a0, a1, a2, a3, b0, b1, b2, b3 uint64) {
		g := groups[uint(which)%uint(len(groups))]
		a, b := api.Nat{a0, a1, a2, a3}, api.Nat{b0, b1, b2, b3}
		checkOne(t, g, a)
		checkTwo(t, g, a, b)
		checkLaws(t, g, a, b, field.Add(g, a, b))
		checkDot(t, g, []api.Nat{a, b, all}, []api.Nat{b, a, a})
		checkDot(t, g, []api.Nat{a, b}, []api.Nat{b})
	})
}
