package commit_test

import (
	"math/big"
	"math/rand/v2"
	"slices"
	"testing"

	"sacristy/api"
	"sacristy/commit"
	"sacristy/group"
	"sacristy/nat"
	"sacristy/share"
)

const ones = 1<<64 - 1

var (
	zero = api.Nat{}
	one  = api.Nat{1}
	all  = api.Nat{ones, ones, ones, ones}
)

// toBig is what the limbs mean, told without the packages that are tested.
func toBig(a api.Nat) *big.Int {
	sum := new(big.Int)
	for k := api.Limbs - 1; k >= 0; k-- {
		sum.Lsh(sum, api.LimbBits)
		sum.Add(sum, new(big.Int).SetUint64(a[k]))
	}
	return sum
}

// fromBig is a number below 2^256, as limbs.
func fromBig(n *big.Int) api.Nat {
	rest := new(big.Int).Set(n)
	var a api.Nat
	for k := range a {
		a[k] = new(big.Int).And(rest, new(big.Int).SetUint64(ones)).Uint64()
		rest.Rsh(rest, api.LimbBits)
	}
	return a
}

// shows tells whether a is layer 4's witness that n is a prime, if f is.
func shows(n, f *big.Int, a int) bool {
	one := big.NewInt(1)
	less := new(big.Int).Sub(n, one)
	often := new(big.Int).Quo(less, f)
	witness := big.NewInt(int64(a))
	if new(big.Int).Exp(witness, less, n).Cmp(one) != 0 {
		return false
	}
	root := new(big.Int).Exp(witness, often, n)
	return new(big.Int).GCD(nil, nil, n, root.Sub(root, one)).Cmp(one) == 0
}

// nextLink is the link of a prime from about so many bits on that f makes; it has fewer than twice as many bits as f.
func nextLink(t testing.TB, f api.Nat, bits int) api.Link {
	t.Helper()
	bf := toBig(f)
	k := new(big.Int).Lsh(big.NewInt(1), uint(bits-1))
	k.Quo(k, bf)
	for range 1 << 14 {
		n := new(big.Int).Mul(k, bf)
		k.Add(k, big.NewInt(1))
		n.Add(n, big.NewInt(1))
		if n.BitLen() < bits || n.Bit(0) == 0 {
			continue
		}
		if n.BitLen() > api.MaxBits || n.Cmp(new(big.Int).Mul(bf, bf)) >= 0 {
			break
		}
		for a := 2; n.ProbablyPrime(0) && a < 100; a++ {
			if shows(n, bf, a) {
				return api.Link{N: fromBig(n), A: a}
			}
		}
	}
	t.Fatalf("%x makes no prime of %d bits", f, bits)
	return api.Link{}
}

// groupOf is a group of a chain from a small prime on, a link for each of bits.
func groupOf(t testing.TB, first int, bits ...int) *group.Group {
	t.Helper()
	l := []api.Link{{N: nat.Of(first)}}
	for _, b := range bits {
		l = append(l, nextLink(t, l[len(l)-1].N, b))
	}
	p, q := toBig(l[len(l)-1].N), toBig(l[len(l)-2].N)
	often := new(big.Int).Sub(p, big.NewInt(1))
	often.Quo(often, q)
	for n := int64(2); n < 100; n++ {
		spawner := new(big.Int).Exp(big.NewInt(n), often, p)
		if g, e := group.New(api.Params{Chain: l, G: fromBig(spawner)}); e == api.OK {
			return g
		}
	}
	t.Fatalf("nothing spawns a subgroup by %x", l)
	return nil
}

// given is a group whose parameters are right.
func given(t testing.TB, p api.Params) *group.Group {
	t.Helper()
	g, e := group.New(p)
	if e != api.OK {
		t.Fatalf("New(%x) = %d", p, e)
	}
	return g
}

// least is the group whose Q is the least that may be: all of its numbers can be tried.
func least(t testing.TB) *group.Group {
	t.Helper()
	return groupOf(t, 521, 11)
}

// manyGroups are groups whose Q has one limb to four, from the least to one of as many bits as there may be.
func manyGroups(t testing.TB) []*group.Group {
	t.Helper()
	return []*group.Group{
		least(t), given(t, group.Least()), given(t, group.Other()), given(t, group.Great()),
		groupOf(t, 65521, 17),
		groupOf(t, 65521, 31, 50, 64, 74),
		groupOf(t, 65521, 31, 50, 65, 75),
		groupOf(t, 32771, 30, 58, 100, 192, 256),
		groupOf(t, 65521, 31, 60, 110, 200, 246, 256),
		groupOf(t, 65521, 31, 60, 110, 200, 250, 256),
		greatest(t),
	}
}

// greatest is a group whose Q has 255 bits, as many as it may have: P is twice Q, and 1.
func greatest(t testing.TB) *group.Group {
	t.Helper()
	digits := []string{"65521", "1074282317", "576460780807958477", "649037107316878326410637878470751",
		"803469022129495137770981108568449884878255012103186407123779",
		"57896044618595922064977028148842967554791797017574897235716261396257767476009",
		"115792089237191844129954056297685935109583594035149794471432522792515534952019"}
	p := api.Params{G: nat.Of(4)}
	for k := range digits {
		n, _ := new(big.Int).SetString(digits[k], 10)
		p.Chain = append(p.Chain, api.Link{N: fromBig(n), A: 2 * min(k, 1)})
	}
	return given(t, p)
}

// less is Q without so many.
func less(g *group.Group, n int) api.Nat {
	rest, _ := nat.Sub(g.Q(), nat.Of(n))
	return rest
}

// edges are naturals about 0, Q, what goes over limbs, and the greatest there are.
func edges(g *group.Group) []api.Nat {
	q := g.Q()
	list := []api.Nat{zero, one, nat.Of(2), nat.Of(3), less(g, 2), less(g, 1), q, nat.Down(q, 1),
		{ones}, {0, 1}, {ones, ones}, {0, 0, 1}, {ones, ones, ones}, {0, 0, 0, 1}, {0, 0, 0, 1 << 63}, all, {ones - 1, ones, ones, ones}}
	last := new(big.Int).Quo(toBig(all), toBig(q))
	for _, often := range []*big.Int{big.NewInt(1), big.NewInt(2), last} {
		for d := int64(-1); d <= 1; d++ {
			n := new(big.Int).Mul(toBig(q), often)
			if n.Add(n, big.NewInt(d)); n.BitLen() <= api.MaxBits {
				list = append(list, fromBig(n))
			}
		}
	}
	return list
}

// drawer draws naturals of all lengths, one in four of them below Q.
func drawer(g *group.Group, r *rand.Rand) func() api.Nat {
	return func() api.Nat {
		a := api.Nat{r.Uint64(), r.Uint64(), r.Uint64(), r.Uint64()}
		if r.IntN(4) == 0 {
			return fromBig(new(big.Int).Mod(toBig(a), toBig(g.Q())))
		}
		return nat.Down(a, r.IntN(api.MaxBits))
	}
}

// of are small numbers, as a polynomial or places.
func of(l ...int) []api.Nat {
	var list []api.Nat
	for _, n := range l {
		list = append(list, nat.Of(n))
	}
	return list
}

// bigs are the numbers of a list, by Q.
func bigs(g *group.Group, l []api.Nat) []*big.Int {
	var list []*big.Int
	for _, n := range l {
		list = append(list, new(big.Int).Mod(toBig(n), toBig(g.Q())))
	}
	return list
}

// want is the polynomial of coefficients without a bound, by the chapter's words.
func want(g *group.Group, l []*big.Int) []api.Nat {
	var list []api.Nat
	for k, n := range l {
		rest := new(big.Int).Mod(n, toBig(g.Q()))
		if rest.Sign() == 0 {
			continue
		}
		for len(list) < k {
			list = append(list, zero)
		}
		list = append(list, fromBig(rest))
	}
	return list
}

// wantEval is the sum of each coefficient times a place to its number, told power by power.
func wantEval(g *group.Group, f []api.Nat, x api.Nat) api.Nat {
	sum := new(big.Int)
	for k, n := range f {
		raised := new(big.Int).Exp(toBig(x), big.NewInt(int64(k)), toBig(g.Q()))
		sum.Add(sum, raised.Mul(raised, toBig(n)))
	}
	return fromBig(sum.Mod(sum, toBig(g.Q())))
}

// byP is a number without a bound, by P.
func byP(g *group.Group, n *big.Int) api.Nat {
	return fromBig(new(big.Int).Mod(n, toBig(g.P())))
}

// wantExp is a power, by P.
func wantExp(g *group.Group, a, e api.Nat) api.Nat {
	return fromBig(new(big.Int).Exp(toBig(a), toBig(e), toBig(g.P())))
}

// member is G to a number.
func member(g *group.Group, e api.Nat) api.Nat {
	return wantExp(g, g.G(), e)
}

// members are powers of G, by small numbers.
func members(g *group.Group, l ...int) []api.Nat {
	var list []api.Nat
	for _, n := range l {
		list = append(list, member(g, nat.Of(n)))
	}
	return list
}

// wantTo are commitments by the chapter's words; none, if they are refused.
func wantTo(g *group.Group, f []api.Nat, n int) ([]api.Nat, api.Errno) {
	f = want(g, bigs(g, f))
	if n < 1 || n > 7 || len(f) > n {
		return nil, api.ErrArg
	}
	var c []api.Nat
	for k := range n {
		if k < len(f) {
			c = append(c, member(g, f[k]))
		} else {
			c = append(c, one)
		}
	}
	return c, api.OK
}

// isMember is what layer 9 says of a member.
func isMember(g *group.Group, a api.Nat) bool {
	return toBig(a).Sign() > 0 && toBig(a).Cmp(toBig(g.P())) < 0 && wantExp(g, a, g.Q()) == one
}

// wantMay tells whether commitments may be.
func wantMay(g *group.Group, c []api.Nat) bool {
	return len(c) >= 1 && len(c) <= 7 && !slices.ContainsFunc(c, func(a api.Nat) bool { return !isMember(g, a) })
}

// wantAt is a product of powers, of which each exponent is a power itself.
func wantAt(g *group.Group, c []api.Nat, i int) api.Nat {
	if i < 0 || i > 7 || len(c) > 7 {
		return zero
	}
	product := big.NewInt(1)
	for k, a := range c {
		exp := new(big.Int).Exp(big.NewInt(int64(i)), big.NewInt(int64(k)), nil)
		product.Mul(product, toBig(wantExp(g, a, fromBig(exp))))
	}
	return byP(g, product)
}

// wantHolds tells whether a share is committed to.
func wantHolds(g *group.Group, c []api.Nat, s api.Share) bool {
	return wantMay(g, c) && s.I >= 1 && s.I <= 7 && toBig(s.Y).Cmp(toBig(g.Q())) < 0 && member(g, s.Y) == wantAt(g, c, s.I)
}

// wantWeights are the coefficients of the polynomials that are 1 at one place and 0 at the others, by the way of Lagrange.
func wantWeights(g *group.Group, xs []int) [][]api.Nat {
	q := toBig(g.Q())
	list := make([][]api.Nat, len(xs))
	for k := range xs {
		row := []*big.Int{big.NewInt(1)}
		for j := range xs {
			if j != k {
				row = timesLine(row, int64(xs[j]), new(big.Int).ModInverse(big.NewInt(int64(xs[k]-xs[j])), q), q)
			}
		}
		for j := range xs {
			list[j] = append(list[j], fromBig(row[j]))
		}
	}
	return list
}

// timesLine is a polynomial, times x less a root, times a factor.
func timesLine(f []*big.Int, root int64, factor, q *big.Int) []*big.Int {
	list := make([]*big.Int, len(f)+1)
	for k := range list {
		list[k] = new(big.Int)
		if k > 0 {
			list[k].Add(list[k], f[k-1])
		}
		if k < len(f) {
			list[k].Sub(list[k], new(big.Int).Mul(f[k], big.NewInt(root)))
		}
		list[k].Mul(list[k], factor).Mod(list[k], q)
	}
	return list
}

// wantFrom are commitments of the first one and of shares; none, if they are refused.
func wantFrom(g *group.Group, first api.Nat, l []api.Share) ([]api.Nat, api.Errno) {
	xs := []int{0}
	for _, s := range l {
		if s.I < 1 || s.I > 7 || slices.Contains(xs, s.I) {
			return nil, api.ErrArg
		}
		xs = append(xs, s.I)
	}
	if !isMember(g, first) || len(l) > 6 {
		return nil, api.ErrArg
	}
	var c []api.Nat
	for _, row := range wantWeights(g, xs) {
		sum := new(big.Int)
		for k, s := range l {
			sum.Add(sum, new(big.Int).Mul(toBig(row[k+1]), toBig(s.Y)))
		}
		known := member(g, fromBig(sum.Mod(sum, toBig(g.Q()))))
		c = append(c, byP(g, new(big.Int).Mul(toBig(wantExp(g, first, row[0])), toBig(known))))
	}
	return c, api.OK
}

// deal are all shares of a polynomial.
func deal(g *group.Group, f []api.Nat) []api.Share {
	var l []api.Share
	for i := 1; i <= api.MaxServers; i++ {
		l = append(l, api.Share{I: i, Y: wantEval(g, f, nat.Of(i))})
	}
	return l
}

// checkTo looks at To, and whether it leaves the polynomial as it was.
func checkTo(t *testing.T, g *group.Group, f []api.Nat, n int) []api.Nat {
	t.Helper()
	was := slices.Clone(f)
	c, e := commit.To(g, f, n)
	if right, wrong := wantTo(g, f, n); !slices.Equal(c, right) || e != wrong {
		t.Errorf("To(%x, %d) by %x = %x, %d, not %x, %d", f, n, g.P(), c, e, right, wrong)
	}
	if !slices.Equal(f, was) {
		t.Errorf("%x has become %x", was, f)
	}
	return c
}

// checkAt looks at May, and at At with a number, and whether they leave the commitments as they were.
func checkAt(t *testing.T, g *group.Group, c []api.Nat, i int) {
	t.Helper()
	was := slices.Clone(c)
	if got, right := commit.At(g, c, i), wantAt(g, c, i); got != right {
		t.Errorf("At(%x, %d) by %x = %x, not %x", c, i, g.P(), got, right)
	}
	if got, right := commit.May(g, c), wantMay(g, c); got != right {
		t.Errorf("May(%x) by %x = %t", c, g.P(), got)
	}
	if !slices.Equal(c, was) {
		t.Errorf("%x has become %x", was, c)
	}
}

// checkHolds looks at Holds, and whether it leaves the commitments as they were.
func checkHolds(t *testing.T, g *group.Group, c []api.Nat, s api.Share) bool {
	t.Helper()
	was := slices.Clone(c)
	got, right := commit.Holds(g, c, s), wantHolds(g, c, s)
	if got != right {
		t.Errorf("Holds(%x, %x) by %x = %t", c, s, g.P(), got)
	}
	if !slices.Equal(c, was) {
		t.Errorf("%x has become %x", was, c)
	}
	return right
}

// checkFrom looks at From, and whether it leaves the shares as they were.
func checkFrom(t *testing.T, g *group.Group, first api.Nat, l []api.Share) ([]api.Nat, api.Errno) {
	t.Helper()
	was := slices.Clone(l)
	c, e := commit.From(g, first, l)
	if right, wrong := wantFrom(g, first, l); !slices.Equal(c, right) || e != wrong {
		t.Errorf("From(%x, %x) by %x = %x, %d, not %x, %d", first, l, g.P(), c, e, right, wrong)
	}
	if !slices.Equal(l, was) {
		t.Errorf("%x has become %x", was, l)
	}
	return c, e
}

// polyDrawer draws polynomials of so many coefficients, of which some are 0, or 0 by Q.
func polyDrawer(g *group.Group, r *rand.Rand) func(count int) []api.Nat {
	draw := drawer(g, r)
	return func(count int) []api.Nat {
		list := make([]api.Nat, count)
		for k := range list {
			switch r.IntN(8) {
			case 0:
			case 1:
				list[k] = g.Q()
			default:
				list[k] = draw()
			}
		}
		return list
	}
}

// strange are naturals that are no members: 0, what is not below P, and what is below P, but not in the subgroup.
func strange(g *group.Group) []api.Nat {
	p := toBig(g.P())
	list := []api.Nat{zero, g.P(), all, fromBig(new(big.Int).Sub(p, big.NewInt(1)))}
	for _, n := range []*big.Int{big.NewInt(1), toBig(g.G())} {
		if over := new(big.Int).Add(p, n); over.BitLen() <= api.MaxBits {
			list = append(list, fromBig(over))
		}
	}
	return append(list, fromBig(new(big.Int).Sub(p, toBig(g.G()))))
}

// some are those of a list whose bit is set in which.
func some[T any](l []T, which int) []T {
	var list []T
	for k := range l {
		if which>>k&1 == 1 {
			list = append(list, l[k])
		}
	}
	return list
}

// mixed is a list in another order.
func mixed[T any](r *rand.Rand, l []T) []T {
	list := slices.Clone(l)
	r.Shuffle(len(list), func(a, b int) { list[a], list[b] = list[b], list[a] })
	return list
}

// Cm1: the chapter's example, and what is known by heart.
func TestExamples(t *testing.T) {
	for _, g := range manyGroups(t) {
		c, e := commit.To(g, of(5, 2), 2)
		if !slices.Equal(c, members(g, 5, 2)) || e != api.OK {
			t.Errorf("the commitments to 5 + 2 x by %x: %x, %d", g.P(), c, e)
		}
		if !commit.May(g, c) || commit.At(g, c, 0) != c[0] {
			t.Errorf("%x by %x at 0 is not the first commitment", c, g.P())
		}
		for i := range 8 {
			if at := commit.At(g, c, i); at != member(g, nat.Of(5+2*i)) {
				t.Errorf("%x by %x at %d is %x", c, g.P(), i, at)
			}
			for y := range 25 {
				if holds := commit.Holds(g, c, api.Share{I: i, Y: nat.Of(y)}); holds != (i > 0 && y == 5+2*i) {
					t.Errorf("%x by %x, of %d and %d: %t", c, g.P(), i, y, holds)
				}
			}
		}
		if back, e := commit.From(g, c[0], []api.Share{{I: 3, Y: nat.Of(11)}}); !slices.Equal(back, c) || e != api.OK {
			t.Errorf("of the first one and a share by %x: %x, %d", g.P(), back, e)
		}
	}
}

// Cm1: polynomials of all lengths, trimmed or not, and all numbers of commitments.
func TestTo(t *testing.T) {
	r := rand.New(rand.NewPCG(14, 1))
	for _, g := range manyGroups(t) {
		draw := polyDrawer(g, r)
		for count := range 10 {
			f := draw(count)
			for n := -1; n <= 9; n++ {
				checkTo(t, g, f, n)
				checkTo(t, g, append(f[:count:count], zero, g.Q(), zero), n)
				checkTo(t, g, append(f[:count:count], less(g, 1)), n)
			}
		}
	}
}

// Cm1: coefficients at the edges.
func TestToEdges(t *testing.T) {
	for _, g := range manyGroups(t) {
		list := edges(g)
		for k, a := range list {
			checkTo(t, g, []api.Nat{a}, 1)
			checkTo(t, g, []api.Nat{a, list[(k+1)%len(list)]}, 2)
			checkTo(t, g, []api.Nat{list[(k+5)%len(list)], zero, a}, 3)
		}
		checkTo(t, g, list[:7], 7)
	}
}

// Cm1: to 0, and to what there is not, the commitment is 1; numbers of commitments that are refused.
func TestToRefused(t *testing.T) {
	g := given(t, group.Great())
	for _, f := range [][]api.Nat{nil, {}, of(0), of(0, 0, 0, 0, 0, 0, 0, 0, 0), {g.Q()}} {
		for n := 1; n <= 7; n++ {
			if c, e := commit.To(g, f, n); !slices.Equal(c, slices.Repeat(of(1), n)) || e != api.OK {
				t.Errorf("To(%x, %d) = %x, %d", f, n, c, e)
			}
		}
		for _, n := range []int{0, -1, -7, 8, 9, 256 + 1, 1<<32 + 1, api.MaxInt, api.MinInt} {
			if c, e := commit.To(g, f, n); len(c) != 0 || e != api.ErrArg {
				t.Errorf("To(%x, %d) = %x, %d", f, n, c, e)
			}
		}
	}
	long := make([]api.Nat, 1<<15)
	long[0] = nat.Of(3)
	if c, e := commit.To(g, long, 1); !slices.Equal(c, members(g, 3)) || e != api.OK {
		t.Errorf("To of many = %x, %d", c, e)
	}
	long[len(long)-1] = one
	if c, e := commit.To(g, long, 7); len(c) != 0 || e != api.ErrArg {
		t.Errorf("To of many = %x, %d", c, e)
	}
}

// Cm1: as many members as there may be, one that is none among them, wherever it stands.
func TestMay(t *testing.T) {
	for _, g := range manyGroups(t) {
		for count := range 10 {
			c := members(g, 0, 1, 2, 3, 4, 5, 6, 7, 8)[:min(count, 9)]
			if may := commit.May(g, c); may != (count >= 1 && count <= 7) {
				t.Errorf("%d members by %x: %t", count, g.P(), may)
			}
			for k := range c {
				for _, a := range strange(g) {
					was := c[k]
					c[k] = a
					if commit.May(g, c) {
						t.Errorf("%x by %x may be", c, g.P())
					}
					c[k] = was
				}
			}
		}
		for _, c := range [][]api.Nat{nil, {}, slices.Repeat(of(1), 1<<15)} {
			if commit.May(g, c) {
				t.Errorf("%d members by %x may be", len(c), g.P())
			}
		}
	}
}

// Cm1: in a small group, each of all numbers alone: just the powers of G may be.
func TestMayAll(t *testing.T) {
	g := least(t)
	p, _ := nat.Int(g.P())
	powers := map[api.Nat]bool{}
	for k := range 521 {
		powers[member(g, nat.Of(k))] = true
	}
	for n := range 2 * p {
		if may := commit.May(g, of(n)); may != powers[nat.Of(n)] {
			t.Errorf("%d: %t", n, may)
		}
	}
}

// Cm1: products of members, and of what is none, at all numbers, of all lengths.
func TestAt(t *testing.T) {
	r := rand.New(rand.NewPCG(14, 2))
	for _, g := range manyGroups(t) {
		draw := drawer(g, r)
		for count := range 10 {
			for range 4 {
				c, others := make([]api.Nat, count), make([]api.Nat, count)
				for k := range c {
					c[k], others[k] = member(g, draw()), draw()
				}
				for i := -1; i <= 8; i++ {
					checkAt(t, g, c, i)
					checkAt(t, g, others, i)
				}
			}
		}
	}
}

// Cm1: naturals at the edges at each place of the list, 0 and those that are not below P too.
func TestAtEdges(t *testing.T) {
	for _, g := range manyGroups(t) {
		for _, a := range append(edges(g), strange(g)...) {
			for k := range 7 {
				c := members(g, 3, 1, 4, 1, 5, 9, 2)
				c[k] = a
				checkAt(t, g, c, 0)
				checkAt(t, g, c, 1)
				checkAt(t, g, c[:k+1], 2+k%6)
				checkAt(t, g, c[k:], 7)
			}
		}
	}
}

// Cm1: exponents are not by Q: at a small Q, of what is no member, it would be another product.
func TestAtNotByQ(t *testing.T) {
	g := least(t)
	two := slices.Repeat(of(2), 7)
	for i := range 8 {
		checkAt(t, g, two, i)
		checkAt(t, g, of(1, 1, 1, 1, 1, 1, 2), i)
	}
	if isMember(g, nat.Of(2)) {
		t.Error("2 is a member: it shows nothing")
	}
}

// Cm1: numbers and lists that are beyond; of none the product is 1.
func TestAtRefused(t *testing.T) {
	for _, g := range manyGroups(t) {
		c := members(g, 1, 2, 3)
		for _, i := range []int{-1, -2, 8, 9, 256 + 1, 1<<32 + 1, api.MaxInt, api.MinInt} {
			for _, l := range [][]api.Nat{nil, c[:1], c} {
				if at := commit.At(g, l, i); at != zero {
					t.Errorf("At(%x, %d) by %x = %x", l, i, g.P(), at)
				}
			}
		}
		for i := range 8 {
			for _, l := range [][]api.Nat{nil, {}} {
				if at := commit.At(g, l, i); at != one {
					t.Errorf("At of none at %d by %x = %x", i, g.P(), at)
				}
			}
			for _, count := range []int{8, 9, 64, 65, 1 << 15} {
				if at := commit.At(g, slices.Repeat(of(1), count), i); at != zero {
					t.Errorf("At of %d at %d by %x = %x", count, i, g.P(), at)
				}
			}
		}
	}
}

// Cm1, Cm3: shares of polynomials of all lengths hold; no other number of theirs, and no other share, does.
func TestHolds(t *testing.T) {
	r := rand.New(rand.NewPCG(14, 3))
	for _, g := range manyGroups(t) {
		draw := polyDrawer(g, r)
		for n := 1; n <= 7; n++ {
			f := draw(n)
			c := checkTo(t, g, f, n)
			for _, s := range deal(g, f) {
				if !checkHolds(t, g, c, s) {
					t.Errorf("%x of %x by %x does not hold", s, f, g.P())
				}
				if at := commit.At(g, c, s.I); at != member(g, s.Y) {
					t.Errorf("%x by %x is at %d %x", c, g.P(), s.I, at)
				}
				for i := -1; i <= 9; i++ {
					checkHolds(t, g, c, api.Share{I: i, Y: s.Y})
				}
				checkHolds(t, g, c, api.Share{I: s.I, Y: draw(1)[0]})
			}
		}
	}
}

// Cm1: a share that is another one in one bit alone, of any limb, and commitments of which one is another one.
func TestHoldsOneBit(t *testing.T) {
	r := rand.New(rand.NewPCG(14, 4))
	for _, g := range []*group.Group{least(t), given(t, group.Great()), greatest(t)} {
		f := []api.Nat{drawer(g, r)(), less(g, 9), nat.Of(1)}
		c := checkTo(t, g, f, 3)
		for _, s := range deal(g, f) {
			for bit := range api.MaxBits {
				other := s
				other.Y[bit/api.LimbBits] ^= 1 << (bit % api.LimbBits)
				if commit.Holds(g, c, other) {
					t.Errorf("%x of %x by %x holds", other, f, g.P())
				}
			}
			for k := range c {
				wrong := slices.Clone(c)
				wrong[k] = wantExp(g, c[k], nat.Of(2))
				wrong[k] = byP(g, new(big.Int).Mul(toBig(wrong[k]), toBig(g.G())))
				if right := checkHolds(t, g, wrong, s); right != (wrong[k] == c[k]) {
					t.Errorf("%x of %x by %x: %t", s, wrong, g.P(), right)
				}
			}
		}
	}
}

// Cm1: a Y that is by Q the right one, but not below it.
func TestHoldsNotBelow(t *testing.T) {
	for _, g := range manyGroups(t) {
		f := of(3, 4, 5)
		c := checkTo(t, g, f, 3)
		for _, s := range deal(g, f) {
			for range 3 {
				var carry int
				if s.Y, carry = nat.Add(s.Y, g.Q()); carry == 0 && commit.Holds(g, c, s) {
					t.Errorf("%x of %x by %x holds", s, f, g.P())
				}
			}
		}
		c = checkTo(t, g, []api.Nat{less(g, 1)}, 1)
		if !commit.Holds(g, c, api.Share{I: 1, Y: less(g, 1)}) || commit.Holds(g, members(g, 0), api.Share{I: 1, Y: g.Q()}) {
			t.Errorf("about Q by %x", g.P())
		}
	}
}

// Cm1: a product that is right, though two commitments, or one that goes in twice, are no members.
func TestHoldsNoMembers(t *testing.T) {
	for _, g := range manyGroups(t) {
		f := of(3, 4, 5)
		minus := func(a api.Nat) api.Nat { return fromBig(new(big.Int).Sub(toBig(g.P()), toBig(a))) }
		over := func(a api.Nat) api.Nat { return fromBig(new(big.Int).Add(toBig(g.P()), toBig(a))) }
		for _, s := range deal(g, f) {
			c := checkTo(t, g, f, 3)
			c[0], c[2] = minus(c[0]), minus(c[2])
			if s.I%2 == 0 {
				c[0] = minus(c[0])
			}
			if wantAt(g, c, s.I) != member(g, s.Y) || commit.Holds(g, c, s) {
				t.Errorf("%x of %x by %x holds", s, c, g.P())
			}
			c = checkTo(t, g, f, 3)
			if nat.Len(g.P()) == api.MaxBits {
				continue
			}
			c[1] = over(c[1])
			if wantAt(g, c, s.I) != member(g, s.Y) || commit.Holds(g, c, s) {
				t.Errorf("%x of %x by %x holds", s, c, g.P())
			}
		}
	}
}

// Cm1: no share holds of no commitments, nor of too many.
func TestHoldsTooMany(t *testing.T) {
	for _, g := range manyGroups(t) {
		for i := -1; i <= 9; i++ {
			for _, y := range []api.Nat{zero, one} {
				for _, count := range []int{0, 8, 9, 65} {
					if commit.Holds(g, slices.Repeat(of(1), count), api.Share{I: i, Y: y}) {
						t.Errorf("%d and %x by %x hold of %d", i, y, g.P(), count)
					}
				}
			}
			for count := 1; count <= 7; count++ {
				if holds := commit.Holds(g, slices.Repeat(of(1), count), api.Share{I: i}); holds != (i >= 1 && i <= 7) {
					t.Errorf("%d and 0 by %x of %d: %t", i, g.P(), count, holds)
				}
			}
		}
		for _, i := range []int{256 + 1, 1<<32 + 1, api.MaxInt, api.MinInt} {
			if commit.Holds(g, of(1), api.Share{I: i}) {
				t.Errorf("%d and 0 by %x hold", i, g.P())
			}
		}
	}
}

// Cm1, Cm3: in a small field, of each number's shares just one holds: the one of the polynomial.
func TestJustOneHolds(t *testing.T) {
	g := least(t)
	for _, f := range [][]api.Nat{nil, of(520), of(7, 300), of(1, 0, 44), of(2, 3, 5, 7, 11, 13, 17)} {
		c := checkTo(t, g, f, 7)
		for _, s := range deal(g, f) {
			for y := range 2 * 521 {
				if holds := commit.Holds(g, c, api.Share{I: s.I, Y: nat.Of(y)}); holds != (nat.Of(y) == s.Y) {
					t.Errorf("%d and %d of %x: %t", s.I, y, f, holds)
				}
			}
		}
	}
}

// Cm3: shares that hold of drawn commitments lie on one polynomial, which is the one that is committed to.
func TestHoldingLies(t *testing.T) {
	r := rand.New(rand.NewPCG(14, 5))
	g := least(t)
	logs := map[api.Nat]api.Nat{}
	for k := range 521 {
		logs[member(g, nat.Of(k))] = nat.Of(k)
	}
	for count := 1; count <= 7; count++ {
		for range 20 {
			c, f := make([]api.Nat, count), make([]api.Nat, count)
			for k := range c {
				c[k] = member(g, nat.Of(r.IntN(521)))
				f[k] = logs[c[k]]
			}
			var l []api.Share
			for i := 1; i <= 7; i++ {
				s := api.Share{I: i, Y: logs[commit.At(g, c, i)]}
				if !commit.Holds(g, c, s) {
					t.Errorf("%x of %x does not hold", s, c)
				}
				l = append(l, s)
			}
			if back, e := share.Recover(g, count-1, l); !slices.Equal(back, want(g, bigs(g, f))) || e != api.OK {
				t.Errorf("%x came back as %x, %d", f, back, e)
			}
		}
	}
}

// Cm2, Cm3: of the first commitment and any shares, one less than there are coefficients, all are told; and these shares hold.
func TestFromChoices(t *testing.T) {
	r := rand.New(rand.NewPCG(14, 6))
	for _, g := range manyGroups(t) {
		draw := polyDrawer(g, r)
		f := draw(7)
		for which := range 1 << api.MaxServers {
			if len(some(f, which)) == 7 {
				continue
			}
			count := len(some(f, which)) + 1
			l := mixed(r, some(deal(g, f[:count]), which))
			c, e := commit.From(g, member(g, f[0]), l)
			if right, _ := wantTo(g, f[:count], count); !slices.Equal(c, right) || e != api.OK {
				t.Errorf("of %x by %x: %x, %d, not %x", l, g.P(), c, e, right)
			}
			for _, s := range l {
				if !commit.Holds(g, c, s) {
					t.Errorf("%x does not hold of %x by %x", s, c, g.P())
				}
			}
		}
	}
}

// Cm2: shares as they come, of Y at the edges, and not below Q: what is told has the first one, and these shares by Q.
func TestFromDrawn(t *testing.T) {
	r := rand.New(rand.NewPCG(14, 7))
	for _, g := range manyGroups(t) {
		draw, list := drawer(g, r), edges(g)
		for count := range 7 {
			for range 6 {
				var l []api.Share
				for _, i := range mixed(r, []int{1, 2, 3, 4, 5, 6, 7})[:count] {
					y := draw()
					if r.IntN(2) == 0 {
						y = list[r.IntN(len(list))]
					}
					l = append(l, api.Share{I: i, Y: y})
				}
				first := member(g, draw())
				c, e := checkFrom(t, g, first, l)
				if e != api.OK || len(c) != count+1 || c[0] != first {
					t.Fatalf("of %x and %x by %x: %x, %d", first, l, g.P(), c, e)
				}
				for k, y := range l {
					if below := fromBig(bigs(g, []api.Nat{y.Y})[0]); !commit.Holds(g, c, api.Share{I: y.I, Y: below}) {
						t.Errorf("the share %d of %x does not hold of %x by %x", k, l, c, g.P())
					}
				}
			}
		}
	}
}

// Cm2: of no share, there is the first one alone.
func TestFromAlone(t *testing.T) {
	for _, g := range manyGroups(t) {
		for _, l := range [][]api.Share{nil, {}} {
			for _, first := range members(g, 0, 1, 5) {
				if c, e := commit.From(g, first, l); !slices.Equal(c, []api.Nat{first}) || e != api.OK {
					t.Errorf("of %x alone by %x: %x, %d", first, g.P(), c, e)
				}
			}
		}
	}
}

// Cm2: a first one that is no member, with shares that may be.
func TestFromNoMember(t *testing.T) {
	for _, g := range manyGroups(t) {
		l := deal(g, of(1, 2, 3))
		for _, first := range strange(g) {
			for n := range 7 {
				if c, e := commit.From(g, first, l[:n]); len(c) != 0 || e != api.ErrArg {
					t.Errorf("of %x and %d shares by %x: %x, %d", first, n, g.P(), c, e)
				}
			}
		}
	}
}

// Cm2: an I that may not be, or is there twice, wherever it stands, and shares that are too many.
func TestFromNumbers(t *testing.T) {
	for _, g := range []*group.Group{least(t), given(t, group.Great())} {
		dealt := deal(g, of(1, 2, 3))
		for count := 1; count <= 6; count++ {
			for k := range count {
				for _, i := range []int{0, -1, -7, 8, 9, 256 + 1, 521 + 1, 1<<32 + 1, api.MaxInt, api.MinInt} {
					l := slices.Clone(dealt[:count])
					l[k].I = i
					if c, e := commit.From(g, g.G(), l); len(c) != 0 || e != api.ErrArg {
						t.Errorf("From(%x) by %x = %x, %d", l, g.P(), c, e)
					}
				}
				for other := range count {
					same, changed := slices.Clone(dealt[:count]), slices.Clone(dealt[:count])
					same[k], changed[k].I = same[other], changed[other].I
					checkFrom(t, g, g.G(), same)
					checkFrom(t, g, g.G(), changed)
				}
			}
		}
		for _, l := range [][]api.Share{dealt, append(dealt[:7:7], dealt[0]), slices.Repeat(dealt, 1<<12), slices.Repeat(dealt[:1], 7)} {
			if c, e := commit.From(g, g.G(), l); len(c) != 0 || e != api.ErrArg {
				t.Errorf("From of %d shares by %x = %x, %d", len(l), g.P(), c, e)
			}
		}
	}
}

// Cm1, Cm2: without a group nothing is told.
func TestWithoutAGroup(t *testing.T) {
	refused, _ := group.New(api.Params{})
	for _, g := range []*group.Group{nil, {}, new(group.Group), refused} {
		for n := -1; n <= 8; n++ {
			for _, f := range [][]api.Nat{nil, of(1), of(0, 0), of(5, 2)} {
				if c, e := commit.To(g, f, n); len(c) != 0 || e != api.ErrArg {
					t.Errorf("To(%x, %d) = %x, %d", f, n, c, e)
				}
				if at := commit.At(g, f, n); at != zero {
					t.Errorf("At(%x, %d) = %x", f, n, at)
				}
				if commit.May(g, f) || commit.Holds(g, f, api.Share{I: n}) || commit.Holds(g, f, api.Share{I: n, Y: one}) {
					t.Errorf("%x may be, or %d holds", f, n)
				}
			}
		}
		for _, l := range [][]api.Share{nil, {}, {{I: 1}}, {{I: 1, Y: one}, {I: 2, Y: one}}, {{I: 9}}} {
			for _, first := range of(0, 1, 2) {
				if c, e := commit.From(g, first, l); len(c) != 0 || e != api.ErrArg {
					t.Errorf("From(%x, %x) = %x, %d", first, l, c, e)
				}
			}
		}
	}
}

// Cm1, Cm2: what lies behind a list's end is neither read nor changed.
func TestRoomBehind(t *testing.T) {
	g := given(t, group.Great())
	f := of(1, 2, 3, 4, 5, 6, 7, 8, 9)
	c := members(g, 1, 2, 3, 4, 5, 6, 7, 8, 9)
	l := deal(g, f[:3])
	l[5], l[6].I, c[6] = l[0], 99, all
	wasF, wasC, wasL := slices.Clone(f), slices.Clone(c), slices.Clone(l)
	for n := range 7 {
		for count := range 8 {
			checkTo(t, g, f[:n], count)
			checkAt(t, g, c[:n], count)
			checkHolds(t, g, c[:n], l[0])
		}
		checkFrom(t, g, g.G(), l[:n])
	}
	if !slices.Equal(f, wasF) || !slices.Equal(c, wasC) || !slices.Equal(l, wasL) {
		t.Errorf("%x, %x, %x have become %x, %x, %x", wasF, wasC, wasL, f, c, l)
	}
}

// fill writes over all of a list's memory, behind its end too.
func fill[T any](l []T, with T) {
	for k := range l[:cap(l)] {
		l[:cap(l)][k] = with
	}
}

// Cm1, Cm2: what is told is new memory: writing there shows neither in what was handed in, nor later.
func TestNewMemory(t *testing.T) {
	for _, g := range manyGroups(t) {
		f := of(5, 2, 9)
		l := deal(g, f)[:2]
		first := member(g, f[0])
		for range 2 {
			c := checkTo(t, g, f, 3)
			back, _ := checkFrom(t, g, first, l)
			fill(back, all)
			checkAt(t, g, c, 2)
			if right, _ := wantTo(g, of(5, 2, 9), 3); !slices.Equal(c, right) {
				t.Fatalf("the commitments have become %x", c)
			}
			fill(c, all)
			if !slices.Equal(f, of(5, 2, 9)) || !slices.Equal(l, deal(g, f)[:2]) {
				t.Fatalf("%x and %x are shared", f, l)
			}
		}
	}
}

// naturalsOf are naturals out of bytes, of which some are members, and some at the edges.
func naturalsOf(g *group.Group, bytes []byte, high uint64) []api.Nat {
	list := append(edges(g), strange(g)...)
	var l []api.Nat
	for k, b := range bytes {
		switch a := (api.Nat{uint64(b), high, high, uint64(b)}); b % 4 {
		case 0:
			l = append(l, list[(k*7+int(b)/4)%len(list)])
		case 1:
			l = append(l, a)
		default:
			l = append(l, member(g, a))
		}
	}
	return l
}

// FuzzCommit looks for polynomials, commitments and shares at which something goes wrong.
func FuzzCommit(f *testing.F) {
	f.Add(0, []byte{}, []byte{}, 0, uint64(0))
	f.Add(1, []byte{5, 2}, []byte{2, 3, 4}, 1, uint64(7))
	f.Add(3, []byte{4, 5, 6, 7}, []byte{8, 7, 6, 5, 4, 3, 2}, 3, uint64(ones))
	f.Add(10, []byte{2, 6, 0}, []byte{0xd2, 0xe3, 0xf4, 1}, 2, uint64(1))
	groups := manyGroups(f)
	f.Fuzz(func(t *testing.T, which int, first, second []byte, n int, high uint64) {
		g := groups[uint(which)%uint(len(groups))]
		h := naturalsOf(g, first[:min(len(first), 9)], high)
		checkTo(t, g, h, n)
		checkAt(t, g, h, n)
		checkAt(t, g, h, n%9)
		checkHolds(t, g, h, api.Share{I: n % 9, Y: api.Nat{high, high, high, high}})
		if c := checkTo(t, g, h, len(h)); len(c) > 0 {
			checkHolds(t, g, c, api.Share{I: n % 9, Y: wantEval(g, h, nat.Of(max(0, n%9)))})
		}
		var l []api.Share
		for k, y := range naturalsOf(g, second[:min(len(second), 9)], high) {
			l = append(l, api.Share{I: int(second[k]/4)%16 - 1, Y: y})
		}
		checkFrom(t, g, g.G(), l)
		for k := range l {
			l[k].I = k + 1
		}
		for _, a := range h {
			checkFrom(t, g, a, l)
		}
	})
}
