package share_test

import (
	"math/big"
	"math/rand/v2"
	"slices"
	"testing"

	"sacristy/api"
	"sacristy/field"
	"sacristy/group"
	"sacristy/nat"
	"sacristy/poly"
	"sacristy/share"
)

const ones = 1<<64 - 1

var (
	zero = api.Nat{}
	one  = api.Nat{1}
	all  = api.Nat{ones, ones, ones, ones}
)

// toBig is what the limbs mean, told without the packages that are tested.
func toBig(a api.Nat) *big.Int {
	sum := new(big.Int)
	for k := api.Limbs - 1; k >= 0; k-- {
		sum.Lsh(sum, api.LimbBits)
		sum.Add(sum, new(big.Int).SetUint64(a[k]))
	}
	return sum
}

// fromBig is a number below 2^256, as limbs.
func fromBig(n *big.Int) api.Nat {
	rest := new(big.Int).Set(n)
	var a api.Nat
	for k := range a {
		a[k] = new(big.Int).And(rest, new(big.Int).SetUint64(ones)).Uint64()
		rest.Rsh(rest, api.LimbBits)
	}
	return a
}

// shows tells whether a is layer 4's witness that n is a prime, if f is.
func shows(n, f *big.Int, a int) bool {
	one := big.NewInt(1)
	less := new(big.Int).Sub(n, one)
	often := new(big.Int).Quo(less, f)
	witness := big.NewInt(int64(a))
	if new(big.Int).Exp(witness, less, n).Cmp(one) != 0 {
		return false
	}
	root := new(big.Int).Exp(witness, often, n)
	return new(big.Int).GCD(nil, nil, n, root.Sub(root, one)).Cmp(one) == 0
}

// nextLink is the link of a prime from about so many bits on that f makes; it has fewer than twice as many bits as f.
func nextLink(t testing.TB, f api.Nat, bits int) api.Link {
	t.Helper()
	bf := toBig(f)
	k := new(big.Int).Lsh(big.NewInt(1), uint(bits-1))
	k.Quo(k, bf)
	for range 1 << 14 {
		n := new(big.Int).Mul(k, bf)
		k.Add(k, big.NewInt(1))
		n.Add(n, big.NewInt(1))
		if n.BitLen() < bits || n.Bit(0) == 0 {
			continue
		}
		if n.BitLen() > api.MaxBits || n.Cmp(new(big.Int).Mul(bf, bf)) >= 0 {
			break
		}
		for a := 2; n.ProbablyPrime(0) && a < 100; a++ {
			if shows(n, bf, a) {
				return api.Link{N: fromBig(n), A: a}
			}
		}
	}
	t.Fatalf("%x makes no prime of %d bits", f, bits)
	return api.Link{}
}

// groupOf is a group of a chain from a small prime on, a link for each of bits.
func groupOf(t testing.TB, first int, bits ...int) *group.Group {
	t.Helper()
	l := []api.Link{{N: nat.Of(first)}}
	for _, b := range bits {
		l = append(l, nextLink(t, l[len(l)-1].N, b))
	}
	p, q := toBig(l[len(l)-1].N), toBig(l[len(l)-2].N)
	often := new(big.Int).Sub(p, big.NewInt(1))
	often.Quo(often, q)
	for n := int64(2); n < 100; n++ {
		spawner := new(big.Int).Exp(big.NewInt(n), often, p)
		if g, e := group.New(api.Params{Chain: l, G: fromBig(spawner)}); e == api.OK {
			return g
		}
	}
	t.Fatalf("nothing spawns a subgroup by %x", l)
	return nil
}

// given is a group whose parameters are right.
func given(t testing.TB, p api.Params) *group.Group {
	t.Helper()
	g, e := group.New(p)
	if e != api.OK {
		t.Fatalf("New(%x) = %d", p, e)
	}
	return g
}

// least is the group whose Q is the least that may be: all of its numbers can be tried.
func least(t testing.TB) *group.Group {
	t.Helper()
	return groupOf(t, 521, 11)
}

// manyGroups are groups whose Q has one limb to four, from the least to one of as many bits as there may be.
func manyGroups(t testing.TB) []*group.Group {
	t.Helper()
	return []*group.Group{
		least(t), given(t, group.Least()), given(t, group.Other()), given(t, group.Great()),
		groupOf(t, 65521, 17),
		groupOf(t, 65521, 31, 50, 64, 74),
		groupOf(t, 65521, 31, 50, 65, 75),
		groupOf(t, 32771, 30, 58, 100, 192, 256),
		groupOf(t, 65521, 31, 60, 110, 200, 246, 256),
		groupOf(t, 65521, 31, 60, 110, 200, 250, 256),
		greatest(t),
	}
}

// greatest is a group whose Q has 255 bits, as many as it may have: P is twice Q, and 1.
func greatest(t testing.TB) *group.Group {
	t.Helper()
	digits := []string{"65521", "1074282317", "576460780807958477", "649037107316878326410637878470751",
		"803469022129495137770981108568449884878255012103186407123779",
		"57896044618595922064977028148842967554791797017574897235716261396257767476009",
		"115792089237191844129954056297685935109583594035149794471432522792515534952019"}
	p := api.Params{G: nat.Of(4)}
	for k := range digits {
		n, _ := new(big.Int).SetString(digits[k], 10)
		p.Chain = append(p.Chain, api.Link{N: fromBig(n), A: 2 * min(k, 1)})
	}
	return given(t, p)
}

// less is Q without so many.
func less(g *group.Group, n int) api.Nat {
	rest, _ := nat.Sub(g.Q(), nat.Of(n))
	return rest
}

// edges are naturals about 0, Q, what goes over limbs, and the greatest there are.
func edges(g *group.Group) []api.Nat {
	q := g.Q()
	list := []api.Nat{zero, one, nat.Of(2), nat.Of(3), less(g, 2), less(g, 1), q, nat.Down(q, 1),
		{ones}, {0, 1}, {ones, ones}, {0, 0, 1}, {ones, ones, ones}, {0, 0, 0, 1}, {0, 0, 0, 1 << 63}, all, {ones - 1, ones, ones, ones}}
	last := new(big.Int).Quo(toBig(all), toBig(q))
	for _, often := range []*big.Int{big.NewInt(1), big.NewInt(2), last} {
		for d := int64(-1); d <= 1; d++ {
			n := new(big.Int).Mul(toBig(q), often)
			if n.Add(n, big.NewInt(d)); n.BitLen() <= api.MaxBits {
				list = append(list, fromBig(n))
			}
		}
	}
	return list
}

// drawer draws naturals of all lengths, one in four of them below Q.
func drawer(g *group.Group, r *rand.Rand) func() api.Nat {
	return func() api.Nat {
		a := api.Nat{r.Uint64(), r.Uint64(), r.Uint64(), r.Uint64()}
		if r.IntN(4) == 0 {
			return fromBig(new(big.Int).Mod(toBig(a), toBig(g.Q())))
		}
		return nat.Down(a, r.IntN(api.MaxBits))
	}
}

// of are small numbers, as a polynomial or places.
func of(l ...int) []api.Nat {
	var list []api.Nat
	for _, n := range l {
		list = append(list, nat.Of(n))
	}
	return list
}

// bigs are the numbers of a list, by Q.
func bigs(g *group.Group, l []api.Nat) []*big.Int {
	var list []*big.Int
	for _, n := range l {
		list = append(list, new(big.Int).Mod(toBig(n), toBig(g.Q())))
	}
	return list
}

// want is the polynomial of coefficients without a bound, by the chapter's words.
func want(g *group.Group, l []*big.Int) []api.Nat {
	var list []api.Nat
	for k, n := range l {
		rest := new(big.Int).Mod(n, toBig(g.Q()))
		if rest.Sign() == 0 {
			continue
		}
		for len(list) < k {
			list = append(list, zero)
		}
		list = append(list, fromBig(rest))
	}
	return list
}

// wantEval is the sum of each coefficient times a place to its number, told power by power.
func wantEval(g *group.Group, f []api.Nat, x api.Nat) api.Nat {
	sum := new(big.Int)
	for k, n := range f {
		raised := new(big.Int).Exp(toBig(x), big.NewInt(int64(k)), toBig(g.Q()))
		sum.Add(sum, raised.Mul(raised, toBig(n)))
	}
	return fromBig(sum.Mod(sum, toBig(g.Q())))
}

// maxPlaces is how many places the chapter lets weights have.
const maxPlaces = 8

// wantDeal are the shares with the numbers 1 to n.
func wantDeal(g *group.Group, f []api.Nat, n int) []api.Share {
	var l []api.Share
	for i := 1; i <= n; i++ {
		l = append(l, api.Share{I: i, Y: wantEval(g, f, nat.Of(i))})
	}
	return l
}

// lies tells whether a share is one of a polynomial: Y is what it is at I, and so below Q.
func lies(g *group.Group, f []api.Nat, s api.Share) bool {
	return s.Y == wantEval(g, f, nat.Of(s.I))
}

// wantWeights are the coefficients of the polynomials that are 1 at one place and 0 at the others, by the way of Lagrange.
func wantWeights(g *group.Group, xs []int) [][]api.Nat {
	q := toBig(g.Q())
	list := make([][]api.Nat, len(xs))
	for k := range xs {
		row := []*big.Int{big.NewInt(1)}
		for j := range xs {
			if j != k {
				row = timesLine(row, int64(xs[j]), new(big.Int).ModInverse(big.NewInt(int64(xs[k]-xs[j])), q), q)
			}
		}
		for j := range xs {
			list[j] = append(list[j], fromBig(row[j]))
		}
	}
	return list
}

// timesLine is a polynomial, times x less a root, times a factor.
func timesLine(f []*big.Int, root int64, factor, q *big.Int) []*big.Int {
	list := make([]*big.Int, len(f)+1)
	for k := range list {
		list[k] = new(big.Int)
		if k > 0 {
			list[k].Add(list[k], f[k-1])
		}
		if k < len(f) {
			list[k].Sub(list[k], new(big.Int).Mul(f[k], big.NewInt(root)))
		}
		list[k].Mul(list[k], factor).Mod(list[k], q)
	}
	return list
}

// wantThrough is the polynomial through shares that are apart.
func wantThrough(g *group.Group, l []api.Share) []api.Nat {
	var xs []int
	for _, s := range l {
		xs = append(xs, s.I)
	}
	sums := make([]*big.Int, len(l))
	for j, row := range wantWeights(g, xs) {
		sums[j] = new(big.Int)
		for k := range row {
			sums[j].Add(sums[j], new(big.Int).Mul(toBig(row[k]), toBig(l[k].Y)))
		}
	}
	return want(g, sums)
}

// twice tells whether a number is there twice.
func twice(l []int) bool {
	seen := map[int]bool{}
	for _, n := range l {
		seen[n] = true
	}
	return len(seen) < len(l)
}

// wantRecover is what the chapter says of shares: the errors in its order, and the polynomial on which all lie.
func wantRecover(g *group.Group, degree int, l []api.Share) ([]api.Nat, api.Errno) {
	var is []int
	for _, s := range l {
		if s.I < 1 || s.I > api.MaxServers {
			return nil, api.ErrArg
		}
		is = append(is, s.I)
	}
	if degree < 0 || degree > api.MaxServers-1 || twice(is) {
		return nil, api.ErrArg
	}
	if len(l) < degree+1 {
		return nil, api.ErrNone
	}
	// The one through all of them is the only one with as many coefficients as shares, or fewer.
	f := wantThrough(g, l)
	if len(f) > degree+1 {
		return nil, api.ErrBad
	}
	for _, s := range l {
		if !lies(g, f, s) {
			return nil, api.ErrBad
		}
	}
	return f, api.OK
}

// mayWeigh tells whether places may have weights.
func mayWeigh(xs []int) bool {
	outside := func(x int) bool { return x < 0 || x > api.MaxServers }
	return len(xs) <= maxPlaces && !slices.ContainsFunc(xs, outside) && !twice(xs)
}

// checkDeal looks at Deal, and whether it leaves the polynomial as it was.
func checkDeal(t *testing.T, g *group.Group, f []api.Nat, n int) []api.Share {
	t.Helper()
	was := slices.Clone(f)
	l, e := share.Deal(g, f, n)
	if n < 1 || n > api.MaxServers {
		if len(l) != 0 || e != api.ErrArg {
			t.Errorf("Deal(%x, %d) by %x = %x, %d", f, n, g.Q(), l, e)
		}
	} else if right := wantDeal(g, f, n); !slices.Equal(l, right) || e != api.OK {
		t.Errorf("Deal(%x, %d) by %x = %x, %d, not %x", f, n, g.Q(), l, e, right)
	}
	if !slices.Equal(f, was) {
		t.Errorf("%x has become %x", was, f)
	}
	return l
}

// checkRecover looks at Recover, and whether it leaves the shares as they were.
func checkRecover(t *testing.T, g *group.Group, degree int, l []api.Share) api.Errno {
	t.Helper()
	was := slices.Clone(l)
	f, e := share.Recover(g, degree, l)
	right, wrong := wantRecover(g, degree, l)
	if !slices.Equal(f, right) || e != wrong {
		t.Errorf("Recover(%d, %x) by %x = %x, %d, not %x, %d", degree, l, g.Q(), f, e, right, wrong)
	}
	if !slices.Equal(l, was) {
		t.Errorf("%x has become %x", was, l)
	}
	return e
}

// checkWeights looks at Weights, and whether it leaves the places as they were.
func checkWeights(t *testing.T, g *group.Group, xs []int) {
	t.Helper()
	was := slices.Clone(xs)
	w, e := share.Weights(g, xs)
	if !mayWeigh(xs) {
		if len(w) != 0 || e != api.ErrArg {
			t.Errorf("Weights(%d) by %x = %x, %d", xs, g.Q(), w, e)
		}
	} else if right := wantWeights(g, xs); !slices.EqualFunc(w, right, slices.Equal[[]api.Nat]) || e != api.OK {
		t.Errorf("Weights(%d) by %x = %x, %d, not %x", xs, g.Q(), w, e, right)
	}
	if !slices.Equal(xs, was) {
		t.Errorf("%d have become %d", was, xs)
	}
}

// polyDrawer draws polynomials of so many coefficients, of which some are 0, or 0 by Q.
func polyDrawer(g *group.Group, r *rand.Rand) func(count int) []api.Nat {
	draw := drawer(g, r)
	return func(count int) []api.Nat {
		list := make([]api.Nat, count)
		for k := range list {
			switch r.IntN(8) {
			case 0:
			case 1:
				list[k] = g.Q()
			default:
				list[k] = draw()
			}
		}
		return list
	}
}

// some are those of a list whose bit is set in which.
func some[T any](l []T, which int) []T {
	var list []T
	for k := range l {
		if which>>k&1 == 1 {
			list = append(list, l[k])
		}
	}
	return list
}

// mixed is a list in another order.
func mixed[T any](r *rand.Rand, l []T) []T {
	list := slices.Clone(l)
	r.Shuffle(len(list), func(a, b int) { list[a], list[b] = list[b], list[a] })
	return list
}

// Sr1: the chapter's example, and what is known by heart.
func TestExamples(t *testing.T) {
	for _, g := range manyGroups(t) {
		l, e := share.Deal(g, of(5, 2), 3)
		if !slices.Equal(l, []api.Share{{I: 1, Y: nat.Of(7)}, {I: 2, Y: nat.Of(9)}, {I: 3, Y: nat.Of(11)}}) || e != api.OK {
			t.Errorf("the shares of 5 + 2 x by %x: %x, %d", g.Q(), l, e)
		}
		if f, e := share.Recover(g, 1, l); !slices.Equal(f, of(5, 2)) || e != api.OK {
			t.Errorf("what came back by %x: %x, %d", g.Q(), f, e)
		}
		if f, e := share.Recover(g, 2, l); !slices.Equal(f, of(5, 2)) || e != api.OK {
			t.Errorf("what came back by %x: %x, %d", g.Q(), f, e)
		}
		if f, e := share.Recover(g, 0, l); len(f) != 0 || e != api.ErrBad {
			t.Errorf("what is no number by %x: %x, %d", g.Q(), f, e)
		}
		w, e := share.Weights(g, []int{0, 1})
		if e != api.OK || len(w) != 2 || !slices.Equal(w[0], of(1, 0)) || !slices.Equal(w[1], []api.Nat{less(g, 1), one}) {
			t.Errorf("the weights of 0 and 1 by %x: %x, %d", g.Q(), w, e)
		}
	}
}

// Sr1: polynomials of all lengths, trimmed or not, to all numbers of servers.
func TestDeal(t *testing.T) {
	r := rand.New(rand.NewPCG(13, 1))
	for _, g := range manyGroups(t) {
		draw := polyDrawer(g, r)
		for count := range 12 {
			f := draw(count)
			for n := -1; n <= api.MaxServers+1; n++ {
				checkDeal(t, g, f, n)
			}
		}
	}
}

// Sr1: coefficients at the edges.
func TestDealEdges(t *testing.T) {
	for _, g := range manyGroups(t) {
		list := edges(g)
		for _, a := range list {
			checkDeal(t, g, []api.Nat{a}, api.MaxServers)
			for _, b := range list {
				checkDeal(t, g, []api.Nat{a, b}, api.MaxServers)
				checkDeal(t, g, []api.Nat{b, zero, a}, api.MaxServers)
			}
		}
		checkDeal(t, g, list, api.MaxServers)
	}
}

// Sr1: numbers of servers that are refused, even for a polynomial of none.
func TestDealRefused(t *testing.T) {
	g := given(t, group.Great())
	for _, f := range [][]api.Nat{nil, {}, of(0), of(1, 2, 3)} {
		for _, n := range []int{0, -1, -7, api.MaxServers + 1, api.MaxServers + 2, 256 + 1, 1<<32 + 1, api.MaxInt, api.MinInt} {
			checkDeal(t, g, f, n)
		}
	}
}

// Sr1: shares of a polynomial of none are 0, those of a number are it.
func TestDealByHeart(t *testing.T) {
	for _, g := range manyGroups(t) {
		for _, f := range [][]api.Nat{nil, {}, of(0, 0), {g.Q()}} {
			l, e := share.Deal(g, f, api.MaxServers)
			if len(l) != api.MaxServers || e != api.OK {
				t.Fatalf("Deal of 0 by %x = %x, %d", g.Q(), l, e)
			}
			for k, s := range l {
				if s != (api.Share{I: k + 1}) {
					t.Errorf("Deal of 0 by %x = %x", g.Q(), l)
				}
			}
		}
		l, _ := share.Deal(g, []api.Nat{less(g, 1), g.Q()}, api.MaxServers)
		for k, s := range l {
			if s != (api.Share{I: k + 1, Y: less(g, 1)}) {
				t.Errorf("Deal of Q less 1 by %x = %x", g.Q(), l)
			}
		}
	}
}

// Sr1: a polynomial of very many coefficients.
func TestDealLong(t *testing.T) {
	g := given(t, group.Great())
	long := make([]api.Nat, 1<<15)
	long[0], long[len(long)-1] = nat.Of(3), nat.Of(2)
	l, e := share.Deal(g, long, api.MaxServers)
	if len(l) != api.MaxServers || e != api.OK {
		t.Fatalf("Deal = %x, %d", l, e)
	}
	for _, s := range l {
		raised := g.Field().Exp(nat.Of(s.I), nat.Of(len(long)-1))
		if right := field.Add(g, nat.Of(3), field.Add(g, raised, raised)); s.Y != right {
			t.Errorf("%x is not %x", s, right)
		}
	}
}

// Sr1, Sr3: of all choices of shares, in whatever order, the polynomial comes back, or there are too few; of a degree too low they lie on nothing.
func TestRecoverChoices(t *testing.T) {
	r := rand.New(rand.NewPCG(13, 2))
	for _, g := range manyGroups(t) {
		draw := polyDrawer(g, r)
		for degree := range api.MaxServers {
			f := append(draw(degree), nat.Of(1+r.IntN(500)))
			right := want(g, bigs(g, f))
			l := checkDeal(t, g, f, api.MaxServers)
			for which := range 1 << api.MaxServers {
				chosen := mixed(r, some(l, which))
				back, e := share.Recover(g, degree, chosen)
				if len(chosen) <= degree {
					if len(back) != 0 || e != api.ErrNone {
						t.Errorf("Recover(%d, %x) by %x = %x, %d", degree, chosen, g.Q(), back, e)
					}
					continue
				}
				if !slices.Equal(back, right) || e != api.OK {
					t.Errorf("Recover(%d, %x) by %x = %x, %d, not %x", degree, chosen, g.Q(), back, e, right)
				}
				if degree == 0 {
					continue
				}
				if low, e := share.Recover(g, degree-1, chosen); len(low) != 0 || e != api.ErrBad {
					t.Errorf("Recover(%d, %x) by %x = %x, %d", degree-1, chosen, g.Q(), low, e)
				}
			}
		}
	}
}

// Sr1: of degrees that are higher than need be, the same comes back, trimmed; 0 too.
func TestRecoverTrimmed(t *testing.T) {
	r := rand.New(rand.NewPCG(13, 3))
	for _, g := range manyGroups(t) {
		draw := polyDrawer(g, r)
		for count := range api.MaxServers + 1 {
			for _, f := range [][]api.Nat{draw(count), make([]api.Nat, count), slices.Repeat([]api.Nat{g.Q()}, count)} {
				right := want(g, bigs(g, f))
				l := mixed(r, checkDeal(t, g, f, api.MaxServers))
				for degree := max(0, len(right)-1); degree < api.MaxServers; degree++ {
					if back, e := share.Recover(g, degree, l); !slices.Equal(back, right) || e != api.OK {
						t.Errorf("Recover(%d, %x) by %x = %x, %d, not %x", degree, l, g.Q(), back, e, right)
					}
				}
			}
		}
	}
}

// Sr1: one share that is another one, wherever it stands, with more shares than need be; with as many as need be it is another polynomial.
func TestRecoverWrong(t *testing.T) {
	r := rand.New(rand.NewPCG(13, 4))
	for _, g := range manyGroups(t) {
		draw := polyDrawer(g, r)
		for degree := range api.MaxServers {
			l := checkDeal(t, g, draw(degree+1), api.MaxServers)
			for count := degree + 1; count <= api.MaxServers; count++ {
				for k := range count {
					chosen := mixed(r, l)[:count]
					chosen[k].Y = field.Add(g, chosen[k].Y, nat.Of(1+r.IntN(500)))
					right := api.ErrBad
					if count == degree+1 {
						right = api.OK
					}
					if e := checkRecover(t, g, degree, chosen); e != right {
						t.Errorf("%d shares of %d, %d of them wrong: %d", count, degree, k, e)
					}
				}
			}
		}
	}
}

// Sr1: a share that is another one in one bit alone, of any limb, and below Q still.
func TestRecoverOneBit(t *testing.T) {
	r := rand.New(rand.NewPCG(13, 11))
	for _, g := range manyGroups(t) {
		l := checkDeal(t, g, []api.Nat{drawer(g, r)(), less(g, 9)}, api.MaxServers)
		for bit := range nat.Len(g.Q()) - 1 {
			for k := range l {
				was := l[k].Y
				l[k].Y[bit/api.LimbBits] ^= 1 << (bit % api.LimbBits)
				if f, e := share.Recover(g, 1, l); len(f) != 0 || e != api.ErrBad {
					t.Errorf("Recover(1, %x) by %x = %x, %d", l, g.Q(), f, e)
				}
				l[k].Y = was
			}
		}
	}
}

// Sr1: a share's Y is what the polynomial is there: one that is not below Q is the share of none, wherever it stands.
func TestRecoverNotBelow(t *testing.T) {
	r := rand.New(rand.NewPCG(13, 5))
	for _, g := range manyGroups(t) {
		for degree := range api.MaxServers {
			l := checkDeal(t, g, of(3, 4, 5, 6, 7, 8, 9)[:degree+1], api.MaxServers)
			for count := degree + 1; count <= api.MaxServers; count++ {
				for k := range count {
					chosen := mixed(r, l)[:count]
					chosen[k].Y, _ = nat.Add(chosen[k].Y, g.Q())
					if e := checkRecover(t, g, degree, chosen); e != api.ErrBad {
						t.Errorf("Recover(%d, %x) by %x = %d", degree, chosen, g.Q(), e)
					}
				}
			}
			for _, y := range []api.Nat{g.Q(), all} {
				if e := checkRecover(t, g, 0, []api.Share{{I: degree + 1, Y: y}}); e != api.ErrBad {
					t.Errorf("%x as a share by %x: %d", y, g.Q(), e)
				}
			}
			if e := checkRecover(t, g, 0, []api.Share{{I: degree + 1, Y: less(g, 1)}}); e != api.OK {
				t.Errorf("Q less 1 as a share by %x: %d", g.Q(), e)
			}
		}
	}
}

// Sr1: shares that are of nothing, as they come.
func TestRecoverDrawn(t *testing.T) {
	r := rand.New(rand.NewPCG(13, 6))
	for _, g := range manyGroups(t) {
		draw, list := drawer(g, r), edges(g)
		for range 300 {
			var l []api.Share
			for range r.IntN(api.MaxServers + 2) {
				y := field.Add(g, draw(), zero)
				if r.IntN(8) == 0 {
					y = list[r.IntN(len(list))]
				}
				l = append(l, api.Share{I: r.IntN(api.MaxServers+60)%(api.MaxServers+2) + r.IntN(2), Y: y})
			}
			checkRecover(t, g, r.IntN(api.MaxServers+2)-1, l)
			for k, i := range mixed(r, []int{1, 2, 3, 4, 5, 6, 7})[:min(len(l), api.MaxServers)] {
				l[k].I = i
			}
			l = l[:min(len(l), api.MaxServers)]
			checkRecover(t, g, r.IntN(api.MaxServers), l)
			checkRecover(t, g, max(0, len(l)-1), l)
			checkRecover(t, g, max(0, len(l)-2), l)
		}
	}
}

// Sr1: degrees that are refused, with whatever shares.
func TestRecoverDegrees(t *testing.T) {
	g := given(t, group.Great())
	l := checkDeal(t, g, of(1, 2), api.MaxServers)
	for n := range api.MaxServers + 1 {
		for _, degree := range []int{-1, -2, api.MaxServers, api.MaxServers + 1, 1 << 8, 1 << 32, api.MaxInt, api.MinInt} {
			if f, e := share.Recover(g, degree, l[:n]); len(f) != 0 || e != api.ErrArg {
				t.Errorf("Recover(%d, %x) = %x, %d", degree, l[:n], f, e)
			}
		}
		for degree := range api.MaxServers {
			right := api.OK
			if degree == 0 && n > 1 {
				right = api.ErrBad
			}
			if n <= degree {
				right = api.ErrNone
			}
			if e := checkRecover(t, g, degree, l[:n]); e != right {
				t.Errorf("Recover(%d, %x) = %d", degree, l[:n], e)
			}
		}
	}
	for _, none := range [][]api.Share{nil, {}} {
		if f, e := share.Recover(g, 0, none); len(f) != 0 || e != api.ErrNone {
			t.Errorf("Recover of none = %x, %d", f, e)
		}
	}
}

// Sr1: an I that may not be, wherever it stands, goes ahead of shares that are too few, or lie on nothing.
func TestRecoverNumbers(t *testing.T) {
	r := rand.New(rand.NewPCG(13, 7))
	for _, g := range []*group.Group{least(t), given(t, group.Great())} {
		dealt := checkDeal(t, g, of(1, 2, 3), api.MaxServers)
		for count := 1; count <= api.MaxServers; count++ {
			for k := range count {
				for _, i := range []int{0, -1, -7, api.MaxServers + 1, api.MaxServers + 2, 256 + 1, 521 + 1, 1<<32 + 1, api.MaxInt, api.MinInt} {
					l := mixed(r, dealt)[:count]
					l[k].I = i
					for degree := range api.MaxServers {
						if f, e := share.Recover(g, degree, l); len(f) != 0 || e != api.ErrArg {
							t.Errorf("Recover(%d, %x) = %x, %d", degree, l, f, e)
						}
					}
				}
			}
		}
	}
}

// Sr1: an I that is there twice, wherever, even if it is the same share.
func TestRecoverTwice(t *testing.T) {
	g := given(t, group.Great())
	dealt := checkDeal(t, g, of(1, 2, 3), api.MaxServers)
	for count := 2; count <= api.MaxServers; count++ {
		for a := range count {
			for b := range count {
				if a == b {
					continue
				}
				same, other := slices.Clone(dealt[:count]), slices.Clone(dealt[:count])
				same[a], other[a].I = same[b], other[b].I
				for degree := range api.MaxServers {
					for _, l := range [][]api.Share{same, other} {
						if f, e := share.Recover(g, degree, l); len(f) != 0 || e != api.ErrArg {
							t.Errorf("Recover(%d, %x) = %x, %d", degree, l, f, e)
						}
					}
				}
			}
		}
	}
	long := slices.Repeat(dealt, 1<<15)
	if f, e := share.Recover(g, 2, long); len(f) != 0 || e != api.ErrArg {
		t.Errorf("Recover of many = %x, %d", f, e)
	}
}

// Sr2: all choices of places, in one order and another.
func TestWeights(t *testing.T) {
	r := rand.New(rand.NewPCG(13, 8))
	places := []int{0, 1, 2, 3, 4, 5, 6, 7}
	for _, g := range manyGroups(t) {
		for which := range 1 << len(places) {
			xs := some(places, which)
			if r.IntN(2) == 0 {
				xs = mixed(r, xs)
			}
			if len(xs) < 5 || which%5 == 0 {
				checkWeights(t, g, xs)
			}
		}
		checkWeights(t, g, places)
		slices.Reverse(places)
		checkWeights(t, g, places)
	}
}

// Sr2: of any numbers at the places, the coefficients are told: as many as places, not trimmed.
func TestWeightsTell(t *testing.T) {
	r := rand.New(rand.NewPCG(13, 9))
	for _, g := range manyGroups(t) {
		draw := polyDrawer(g, r)
		for count := range maxPlaces + 1 {
			xs := mixed(r, []int{0, 1, 2, 3, 4, 5, 6, 7})[:count]
			w, e := share.Weights(g, xs)
			if len(w) != count || e != api.OK {
				t.Fatalf("Weights(%d) by %x = %x, %d", xs, g.Q(), w, e)
			}
			for range 4 {
				f := draw(count)
				ys := make([]api.Nat, count)
				for k := range ys {
					ys[k] = wantEval(g, f, nat.Of(xs[k]))
				}
				for j := range w {
					if d, e := field.Dot(g, w[j], ys); d != fromBig(bigs(g, f)[j]) || e != api.OK {
						t.Errorf("by the weights of %d the coefficient %d of %x is %x, by %x", xs, j, f, d, g.Q())
					}
				}
			}
		}
	}
}

// Sr2: of no place there is no list, of one place the number is the polynomial.
func TestWeightsByHeart(t *testing.T) {
	for _, g := range manyGroups(t) {
		for _, xs := range [][]int{nil, {}} {
			if w, e := share.Weights(g, xs); len(w) != 0 || e != api.OK {
				t.Errorf("Weights of none by %x = %x, %d", g.Q(), w, e)
			}
		}
		for x := range maxPlaces {
			if w, e := share.Weights(g, []int{x}); len(w) != 1 || !slices.Equal(w[0], of(1)) || e != api.OK {
				t.Errorf("Weights of %d by %x = %x, %d", x, g.Q(), w, e)
			}
		}
	}
}

// Sr2: places that are outside, wherever they stand.
func TestWeightsOutside(t *testing.T) {
	for _, g := range []*group.Group{least(t), given(t, group.Great())} {
		for count := 1; count <= maxPlaces; count++ {
			for k := range count {
				for _, x := range []int{-1, -2, api.MaxServers + 1, api.MaxServers + 2, 256, 521, 522, 1 << 32, api.MaxInt, api.MinInt} {
					xs := []int{7, 0, 1, 6, 5, 2, 4, 3}[:count]
					xs[k] = x
					if w, e := share.Weights(g, xs); len(w) != 0 || e != api.ErrArg {
						t.Errorf("Weights(%d) by %x = %x, %d", xs, g.Q(), w, e)
					}
				}
			}
		}
	}
}

// Sr2: a place that is there twice, and more places than there may be.
func TestWeightsTwice(t *testing.T) {
	g := given(t, group.Great())
	for count := 2; count <= maxPlaces+2; count++ {
		for a := range count {
			for b := range count {
				xs := []int{7, 0, 1, 6, 5, 2, 4, 3, 0, 7}[:count]
				xs[a] = xs[b]
				checkWeights(t, g, xs)
			}
		}
	}
	if w, e := share.Weights(g, slices.Repeat([]int{0, 1, 2, 3, 4, 5, 6, 7}, 1<<15)); len(w) != 0 || e != api.ErrArg {
		t.Errorf("Weights of many = %x, %d", w, e)
	}
}

// Sr3: a share of each line of a small field: with each secret just one line has it.
func TestOneLineEach(t *testing.T) {
	g := least(t)
	const q = 521
	count := make([][]int, q)
	for secret := range count {
		count[secret] = make([]int, q)
		for slope := range q {
			l, e := share.Deal(g, of(secret, slope), 2)
			if len(l) != 2 || e != api.OK {
				t.Fatalf("Deal = %x, %d", l, e)
			}
			y, _ := nat.Int(l[1].Y)
			count[secret][y]++
		}
	}
	for secret := range count {
		for y, n := range count[secret] {
			if n != 1 {
				t.Fatalf("%d lines have the secret %d and the share %d", n, secret, y)
			}
		}
	}
}

// Sr3: as many shares as the degree leave all secrets: with each one there is a polynomial of these shares.
func TestAnySecret(t *testing.T) {
	r := rand.New(rand.NewPCG(13, 10))
	g := least(t)
	draw := polyDrawer(g, r)
	for degree := range api.MaxServers {
		l := mixed(r, checkDeal(t, g, draw(degree+1), api.MaxServers))[:degree]
		xs, ys := []int{0}, []api.Nat{zero}
		for _, s := range l {
			xs, ys = append(xs, s.I), append(ys, s.Y)
		}
		w, e := share.Weights(g, xs)
		if len(w) != degree+1 || e != api.OK {
			t.Fatalf("Weights(%d) = %x, %d", xs, w, e)
		}
		for secret := range 521 {
			ys[0] = nat.Of(secret)
			f := make([]api.Nat, degree+1)
			for j := range f {
				f[j], _ = field.Dot(g, w[j], ys)
			}
			if f[0] != ys[0] || slices.ContainsFunc(l, func(s api.Share) bool { return !lies(g, f, s) }) {
				t.Errorf("%x has not the secret %d and the shares %x", f, secret, l)
			}
			right := want(g, bigs(g, f))
			more := checkDeal(t, g, f, api.MaxServers)
			if back, e := share.Recover(g, degree, more); !slices.Equal(back, right) || e != api.OK {
				t.Errorf("%x came back as %x, %d", right, back, e)
			}
		}
	}
}

// Sr1, Sr2: without a group nothing is told.
func TestWithoutAGroup(t *testing.T) {
	refused, _ := group.New(api.Params{})
	for _, g := range []*group.Group{nil, {}, new(group.Group), refused} {
		for n := -1; n <= api.MaxServers+1; n++ {
			if l, e := share.Deal(g, of(5, 2), n); len(l) != 0 || e != api.ErrArg {
				t.Errorf("Deal to %d = %x, %d", n, l, e)
			}
			for _, l := range [][]api.Share{nil, {}, {{I: 1}}, {{I: 1, Y: one}, {I: 2, Y: one}}, {{I: 9}}} {
				if f, e := share.Recover(g, n, l); len(f) != 0 || e != api.ErrArg {
					t.Errorf("Recover(%d, %x) = %x, %d", n, l, f, e)
				}
			}
		}
		for _, xs := range [][]int{nil, {}, {0}, {1, 2}, {1, 1}, {-1}} {
			if w, e := share.Weights(g, xs); len(w) != 0 || e != api.ErrArg {
				t.Errorf("Weights(%d) = %x, %d", xs, w, e)
			}
		}
	}
}

// Sr1, Sr2: what lies behind a list's end is neither read nor changed.
func TestRoomBehind(t *testing.T) {
	g := given(t, group.Great())
	f := of(1, 2, 3, 4, 5, 6, 7)
	xs := []int{3, 1, 2, 7, 3, 1, -1, 99}
	l := wantDeal(g, f, api.MaxServers)
	l[4], l[6].I = l[0], 99
	wasF, wasX, wasL := slices.Clone(f), slices.Clone(xs), slices.Clone(l)
	for n := range 5 {
		checkDeal(t, g, f[:n], api.MaxServers)
		checkWeights(t, g, xs[:n])
		for degree := range 5 {
			checkRecover(t, g, degree, l[:n])
		}
	}
	if !slices.Equal(f, wasF) || !slices.Equal(xs, wasX) || !slices.Equal(l, wasL) {
		t.Errorf("%x, %d, %x have become %x, %d, %x", wasF, wasX, wasL, f, xs, l)
	}
}

// fill writes over all of a list's memory, behind its end too.
func fill[T any](l []T, with T) {
	for k := range l[:cap(l)] {
		l[:cap(l)][k] = with
	}
}

// Sr1, Sr2: what is told is new memory: writing there shows neither in what was handed in, nor in what is told beside it, nor later.
func TestNewMemory(t *testing.T) {
	for _, g := range manyGroups(t) {
		f, xs := of(5, 2), []int{0, 1, 2}
		for range 2 {
			l := checkDeal(t, g, f, 4)
			back, _ := share.Recover(g, 1, l)
			if !slices.Equal(back, f) {
				t.Fatalf("what came back by %x: %x", g.Q(), back)
			}
			fill(back, all)
			w, _ := share.Weights(g, xs)
			right := wantWeights(g, xs)
			for j := range w {
				if !slices.Equal(w[j], right[j]) {
					t.Fatalf("the weights %d of %d by %x: %x, not %x", j, xs, g.Q(), w[j], right[j])
				}
				fill(w[j], all)
			}
			fill(w, nil)
			if !slices.Equal(l, wantDeal(g, f, 4)) {
				t.Fatalf("the shares have become %x", l)
			}
			fill(l, api.Share{I: 9, Y: all})
			if !slices.Equal(f, of(5, 2)) || !slices.Equal(xs, []int{0, 1, 2}) {
				t.Fatalf("%x and %d are shared", f, xs)
			}
		}
	}
}

// sharesOf are shares out of bytes: an I and a Y each, of which some are on a polynomial, and some at the edges.
func sharesOf(g *group.Group, f []api.Nat, bytes []byte) []api.Share {
	list := edges(g)
	var l []api.Share
	for _, b := range bytes {
		i := int(b%16) - 1
		y := poly.Eval(g, f, nat.Of(i))
		if high := int(b) / 16; high > 12 {
			y = list[(len(l)*7+high)%len(list)]
		}
		l = append(l, api.Share{I: i, Y: y})
	}
	return l
}

// FuzzShare looks for polynomials, shares and places at which something goes wrong.
func FuzzShare(f *testing.F) {
	f.Add(0, []byte{}, []byte{}, 0, uint64(0))
	f.Add(1, []byte{5, 2}, []byte{2, 3, 4}, 1, uint64(7))
	f.Add(3, []byte{4, 5, 6, 7}, []byte{8, 7, 6, 5, 4, 3, 2}, 3, uint64(ones))
	f.Add(10, []byte{1, 6, 0}, []byte{0xd2, 0xe3, 0xf4, 1}, 2, uint64(1))
	groups := manyGroups(f)
	f.Fuzz(func(t *testing.T, which int, first, second []byte, n int, high uint64) {
		g := groups[uint(which)%uint(len(groups))]
		var h []api.Nat
		for _, b := range first[:min(len(first), 12)] {
			h = append(h, api.Nat{uint64(b), high, high, uint64(b)})
		}
		checkDeal(t, g, h, n)
		checkDeal(t, g, h, n%9)
		l := sharesOf(g, h, second[:min(len(second), 12)])
		checkRecover(t, g, n, l)
		checkRecover(t, g, n%8, l)
		checkRecover(t, g, len(l)-1, l)
		var xs []int
		for _, s := range l {
			xs = append(xs, s.I)
		}
		checkWeights(t, g, xs)
	})
}
