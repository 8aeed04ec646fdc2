package power_test

import (
	"math/big"
	"math/rand/v2"
	"slices"
	"testing"

	"sacristy/api"
	"sacristy/field"
	"sacristy/group"
	"sacristy/nat"
	"sacristy/power"
)

const (
	ones    = 1<<64 - 1
	maxMany = 64
)

var (
	zero = api.Nat{}
	one  = api.Nat{1}
	all  = api.Nat{ones, ones, ones, ones}
)

// toBig is what the limbs mean, told without the packages that are tested.
func toBig(a api.Nat) *big.Int {
	sum := new(big.Int)
	for k := api.Limbs - 1; k >= 0; k-- {
		sum.Lsh(sum, api.LimbBits)
		sum.Add(sum, new(big.Int).SetUint64(a[k]))
	}
	return sum
}

// fromBig is a number below 2^256, as limbs.
func fromBig(n *big.Int) api.Nat {
	rest := new(big.Int).Set(n)
	var a api.Nat
	for k := range a {
		a[k] = new(big.Int).And(rest, new(big.Int).SetUint64(ones)).Uint64()
		rest.Rsh(rest, api.LimbBits)
	}
	return a
}

// shows tells whether a is layer 4's witness that n is a prime, if f is.
func shows(n, f *big.Int, a int) bool {
	one := big.NewInt(1)
	less := new(big.Int).Sub(n, one)
	often := new(big.Int).Quo(less, f)
	witness := big.NewInt(int64(a))
	if new(big.Int).Exp(witness, less, n).Cmp(one) != 0 {
		return false
	}
	root := new(big.Int).Exp(witness, often, n)
	return new(big.Int).GCD(nil, nil, n, root.Sub(root, one)).Cmp(one) == 0
}

// nextLink is the link of a prime from about so many bits on that f makes; it has fewer than twice as many bits as f.
func nextLink(t testing.TB, f api.Nat, bits int) api.Link {
	t.Helper()
	bf := toBig(f)
	k := new(big.Int).Lsh(big.NewInt(1), uint(bits-1))
	k.Quo(k, bf)
	for range 1 << 14 {
		n := new(big.Int).Mul(k, bf)
		k.Add(k, big.NewInt(1))
		n.Add(n, big.NewInt(1))
		if n.BitLen() < bits || n.Bit(0) == 0 {
			continue
		}
		if n.BitLen() > api.MaxBits || n.Cmp(new(big.Int).Mul(bf, bf)) >= 0 {
			break
		}
		for a := 2; n.ProbablyPrime(0) && a < 100; a++ {
			if shows(n, bf, a) {
				return api.Link{N: fromBig(n), A: a}
			}
		}
	}
	t.Fatalf("%x makes no prime of %d bits", f, bits)
	return api.Link{}
}

// groupOf is a group of a chain from a small prime on, a link for each of bits.
func groupOf(t testing.TB, first int, bits ...int) *group.Group {
	t.Helper()
	l := []api.Link{{N: nat.Of(first)}}
	for _, b := range bits {
		l = append(l, nextLink(t, l[len(l)-1].N, b))
	}
	p, q := toBig(l[len(l)-1].N), toBig(l[len(l)-2].N)
	often := new(big.Int).Sub(p, big.NewInt(1))
	often.Quo(often, q)
	for n := int64(2); n < 100; n++ {
		spawner := new(big.Int).Exp(big.NewInt(n), often, p)
		if g, e := group.New(api.Params{Chain: l, G: fromBig(spawner)}); e == api.OK {
			return g
		}
	}
	t.Fatalf("nothing spawns a subgroup by %x", l)
	return nil
}

// given is a group whose parameters are right.
func given(t testing.TB, p api.Params) *group.Group {
	t.Helper()
	g, e := group.New(p)
	if e != api.OK {
		t.Fatalf("New(%x) = %d", p, e)
	}
	return g
}

// least is the group whose Q is the least that may be: all of its numbers can be tried.
func least(t testing.TB) *group.Group {
	t.Helper()
	return groupOf(t, 521, 11)
}

// manyGroups are groups whose Q has one limb to four, from the least to one of as many bits as there may be.
func manyGroups(t testing.TB) []*group.Group {
	t.Helper()
	return []*group.Group{
		least(t), given(t, group.Least()), given(t, group.Other()), given(t, group.Great()),
		groupOf(t, 65521, 17),
		groupOf(t, 65521, 31, 50, 64, 74),
		groupOf(t, 65521, 31, 50, 65, 75),
		groupOf(t, 32771, 30, 58, 100, 192, 256),
		groupOf(t, 65521, 31, 60, 110, 200, 246, 256),
		groupOf(t, 65521, 31, 60, 110, 200, 250, 256),
		greatest(t),
	}
}

// greatest is a group whose Q has 255 bits, as many as it may have: P is twice Q, and 1.
func greatest(t testing.TB) *group.Group {
	t.Helper()
	digits := []string{"65521", "1074282317", "576460780807958477", "649037107316878326410637878470751",
		"803469022129495137770981108568449884878255012103186407123779",
		"57896044618595922064977028148842967554791797017574897235716261396257767476009",
		"115792089237191844129954056297685935109583594035149794471432522792515534952019"}
	p := api.Params{G: nat.Of(4)}
	for k := range digits {
		n, _ := new(big.Int).SetString(digits[k], 10)
		p.Chain = append(p.Chain, api.Link{N: fromBig(n), A: 2 * min(k, 1)})
	}
	return given(t, p)
}

// less is a natural without so many.
func less(a api.Nat, n int) api.Nat {
	rest, _ := nat.Sub(a, nat.Of(n))
	return rest
}

// edges are naturals about 0, Q, P and multiples of both, what goes over limbs, members, and the greatest there are.
func edges(g *group.Group) []api.Nat {
	list := []api.Nat{zero, one, nat.Of(2), nat.Of(3), g.G(), less(g.P(), 2), nat.Down(g.Q(), 1), nat.Down(g.P(), 1),
		{ones}, {0, 1}, {ones, ones}, {0, 0, 1}, {ones, ones, ones}, {0, 0, 0, 1}, {0, 0, 0, 1 << 63}, all, {ones - 1, ones, ones, ones}}
	p, q := toBig(g.P()), toBig(g.Q())
	for _, m := range []*big.Int{p, q} {
		last := new(big.Int).Quo(toBig(all), m)
		for _, often := range []*big.Int{big.NewInt(1), big.NewInt(2), last} {
			for d := int64(-1); d <= 1; d++ {
				n := new(big.Int).Mul(m, often)
				if n.Add(n, big.NewInt(d)); n.BitLen() <= api.MaxBits {
					list = append(list, fromBig(n))
				}
			}
		}
	}
	// A member of the subgroup, and P: below P it is that member, and so it is none itself.
	if n := new(big.Int).Add(p, toBig(g.G())); n.BitLen() <= api.MaxBits {
		list = append(list, fromBig(n))
	}
	return list
}

// drawer draws naturals of all lengths; one in four of them are below Q, one in four below P, and one in four members.
func drawer(g *group.Group, r *rand.Rand) func() api.Nat {
	return func() api.Nat {
		a := api.Nat{r.Uint64(), r.Uint64(), r.Uint64(), r.Uint64()}
		switch r.IntN(4) {
		case 0:
			return fromBig(new(big.Int).Mod(toBig(a), toBig(g.Q())))
		case 1:
			return byP(g, toBig(a))
		case 2:
			return wantExp(g, g.G(), a)
		}
		return nat.Down(a, r.IntN(api.MaxBits))
	}
}

// byP is a number without a bound, by P.
func byP(g *group.Group, n *big.Int) api.Nat {
	return fromBig(new(big.Int).Mod(n, toBig(g.P())))
}

// wantExp is what Pw1 says of Exp.
func wantExp(g *group.Group, a, e api.Nat) api.Nat {
	return fromBig(new(big.Int).Exp(toBig(a), toBig(e), toBig(g.P())))
}

// wantIn is what the chapter says of a member.
func wantIn(g *group.Group, a api.Nat) bool {
	return toBig(a).Sign() > 0 && toBig(a).Cmp(toBig(g.P())) < 0 && wantExp(g, a, g.Q()) == one
}

// checkOne looks at what is asked of one natural.
func checkOne(t *testing.T, g *group.Group, a api.Nat) {
	t.Helper()
	if got, want := power.In(g, a), wantIn(g, a); got != want {
		t.Errorf("In(%x) by %x = %t", a, g.P(), got)
	}
	if got, want := power.Of(g, a), wantExp(g, g.G(), a); got != want {
		t.Errorf("Of(%x) by %x = %x, not %x", a, g.P(), got, want)
	}
	if got, want := power.Inv(g, a), wantExp(g, a, less(g.Q(), 1)); got != want {
		t.Errorf("Inv(%x) by %x = %x, not %x", a, g.P(), got, want)
	}
}

// checkTwo looks at what is asked of two naturals.
func checkTwo(t *testing.T, g *group.Group, a, b api.Nat) {
	t.Helper()
	if got, want := power.Mul(g, a, b), byP(g, new(big.Int).Mul(toBig(a), toBig(b))); got != want {
		t.Errorf("Mul(%x, %x) by %x = %x, not %x", a, b, g.P(), got, want)
	}
	if got, want := power.Exp(g, a, b), wantExp(g, a, b); got != want {
		t.Errorf("Exp(%x, %x) by %x = %x, not %x", a, b, g.P(), got, want)
	}
}

// checkMulti looks at Multi, and whether it leaves the lists as they were.
func checkMulti(t *testing.T, g *group.Group, bases, exps []api.Nat) {
	t.Helper()
	wasBases, wasExps := slices.Clone(bases), slices.Clone(exps)
	want, wantErr := zero, api.ErrArg
	if len(bases) == len(exps) && len(bases) <= maxMany {
		product := big.NewInt(1)
		for k := range bases {
			product.Mul(product, toBig(wantExp(g, bases[k], exps[k])))
			product.Mod(product, toBig(g.P()))
		}
		want, wantErr = fromBig(product), api.OK
	}
	if got, e := power.Multi(g, bases, exps); got != want || e != wantErr {
		t.Errorf("Multi(%x, %x) by %x = %x, %d, not %x, %d", bases, exps, g.P(), got, e, want, wantErr)
	}
	if !slices.Equal(bases, wasBases) || !slices.Equal(exps, wasExps) {
		t.Errorf("%x and %x have become %x and %x", wasBases, wasExps, bases, exps)
	}
}

// checkLaws looks whether what Pw2 says holds of two naturals.
func checkLaws(t *testing.T, g *group.Group, a, b api.Nat) {
	t.Helper()
	first, second := power.Of(g, a), power.Of(g, b)
	if power.Of(g, field.Add(g, a, b)) != power.Mul(g, first, second) || power.Of(g, field.Mul(g, a, b)) != power.Exp(g, first, b) {
		t.Errorf("powers of %x and %x by %x", a, b, g.P())
	}
	if power.Of(g, field.Sub(g, a, b)) != power.Mul(g, first, power.Inv(g, second)) || power.Of(g, field.Sub(g, zero, a)) != power.Inv(g, first) {
		t.Errorf("the power of %x less %x by %x", a, b, g.P())
	}
	if !power.In(g, first) || !power.In(g, power.Mul(g, first, second)) || !power.In(g, power.Inv(g, first)) {
		t.Errorf("powers of G by %x, %x and %x, are no members", g.P(), a, b)
	}
	rest := byP(g, toBig(a))
	product := power.Mul(g, rest, power.Inv(g, rest))
	if (product == one) != power.In(g, rest) || (product == zero) != (rest == zero) {
		t.Errorf("%x by %x with what Inv tells is %x", rest, g.P(), product)
	}
	if power.Inv(g, a) != power.Inv(g, rest) {
		t.Errorf("Inv(%x) is not Inv(%x) by %x", a, rest, g.P())
	}
}

// Pw1: the chapter's examples, and what is known by heart.
func TestExamples(t *testing.T) {
	for _, g := range manyGroups(t) {
		if power.Of(g, zero) != one || power.Of(g, one) != g.G() || power.Of(g, g.Q()) != one || power.Of(g, less(g.Q(), 1)) != power.Inv(g, g.G()) {
			t.Errorf("powers of G by %x", g.P())
		}
		if power.Exp(g, zero, zero) != one || power.Exp(g, g.P(), zero) != one || power.Exp(g, zero, one) != zero || power.Exp(g, g.P(), all) != zero {
			t.Errorf("powers of 0 by %x", g.P())
		}
		if power.Inv(g, zero) != zero || power.Inv(g, g.P()) != zero || power.Inv(g, one) != one {
			t.Errorf("what Inv tells of 0 and 1 by %x", g.P())
		}
		if power.Mul(g, less(g.P(), 1), less(g.P(), 1)) != one || power.Mul(g, g.P(), all) != zero || power.Mul(g, g.P(), one) != zero {
			t.Errorf("products by %x", g.P())
		}
		// Q is odd, so that one less than P is no member, and Inv, that is an even power of it, tells 1.
		if power.In(g, less(g.P(), 1)) || power.Inv(g, less(g.P(), 1)) != one {
			t.Errorf("one less than %x", g.P())
		}
	}
}

// Pw1: In is asked about P and the power, not about Q.
func TestInEdges(t *testing.T) {
	for _, g := range manyGroups(t) {
		if power.In(g, zero) || !power.In(g, one) || !power.In(g, g.G()) || power.In(g, g.P()) || power.In(g, all) {
			t.Errorf("members by %x", g.P())
		}
		for k := range 20 {
			member := wantExp(g, g.G(), nat.Of(k))
			if !power.In(g, member) {
				t.Errorf("%x, G to the %d by %x, is no member", member, k, g.P())
			}
			// What is a member by P, and not below P, is none.
			more, carry := nat.Add(member, g.P())
			if carry == 0 && power.In(g, more) {
				t.Errorf("%x, not below %x, is a member", more, g.P())
			}
			// Members' negatives are none, as one less than P is none.
			if less, _ := nat.Sub(g.P(), member); power.In(g, less) {
				t.Errorf("%x by %x is a member", less, g.P())
			}
		}
	}
}

// smallGroups are those of which all numbers can be tried: with few numbers beside the members, and with many.
func smallGroups(t *testing.T) []*group.Group {
	t.Helper()
	return []*group.Group{least(t), groupOf(t, 521, 16)}
}

// Pw1, Pw2: of all numbers of a small group, the powers of G are the members, and these alone have the inverse that Inv tells.
func TestAllOfASmallGroup(t *testing.T) {
	for _, g := range smallGroups(t) {
		p, _ := nat.Int(g.P())
		q, _ := nat.Int(g.Q())
		spawner, _ := nat.Int(g.G())
		member := make([]bool, p)
		at := 1
		for e := range q {
			if got := power.Of(g, nat.Of(e)); got != nat.Of(at) || power.Of(g, nat.Of(e+q)) != got {
				t.Fatalf("Of(%d) by %d = %x, not %d", e, p, got, at)
			}
			member[at] = true
			at = at * spawner % p
		}
		count := 0
		for a := range p {
			if power.In(g, nat.Of(a)) != member[a] || power.In(g, nat.Of(a+p)) {
				t.Errorf("In(%d) by %d is not %t", a, p, member[a])
			}
			if member[a] {
				count++
			}
			checkOne(t, g, nat.Of(a))
			product := power.Mul(g, nat.Of(a), power.Inv(g, nat.Of(a)))
			if (product == one) != member[a] || (product == zero) != (a == 0) {
				t.Errorf("%d by %d with what Inv tells is %x", a, p, product)
			}
		}
		if count != q {
			t.Errorf("%d members by %d, not %d", count, p, q)
		}
	}
}

// Pw1, Pw2: products of all pairs of members are the powers of G by the sums.
func TestAllProducts(t *testing.T) {
	g := least(t)
	p, _ := nat.Int(g.P())
	q, _ := nat.Int(g.Q())
	spawner, _ := nat.Int(g.G())
	members := make([]int, q)
	members[0] = 1
	for e := 1; e < q; e++ {
		members[e] = members[e-1] * spawner % p
	}
	for a := range q {
		for b := range q {
			got := power.Mul(g, nat.Of(members[a]), nat.Of(members[b]))
			if got != nat.Of(members[a]*members[b]%p) || got != nat.Of(members[(a+b)%q]) {
				t.Fatalf("%d times %d by %d = %x", members[a], members[b], p, got)
			}
		}
	}
}

// Pw1: at the edges, each with each; what is not below P counts as what it is by P, and exponents are no less than they are.
func TestEdges(t *testing.T) {
	for _, g := range manyGroups(t) {
		list := edges(g)
		for _, a := range list {
			checkOne(t, g, a)
			for _, b := range list {
				checkTwo(t, g, a, b)
			}
		}
	}
}

// Pw1: naturals that are drawn.
func TestDrawn(t *testing.T) {
	r := rand.New(rand.NewPCG(9, 256))
	for _, g := range manyGroups(t) {
		draw := drawer(g, r)
		for range 200 {
			a, b := draw(), draw()
			checkOne(t, g, a)
			checkTwo(t, g, a, b)
		}
	}
}

// Pw1: lists of all lengths from none to as many as there may be, and beyond.
func TestMulti(t *testing.T) {
	r := rand.New(rand.NewPCG(9, 257))
	for _, g := range manyGroups(t) {
		draw := drawer(g, r)
		for n := range maxMany + 3 {
			bases, exps := make([]api.Nat, n), make([]api.Nat, n)
			checkMulti(t, g, bases, exps)
			for k := range n {
				bases[k], exps[k] = draw(), draw()
			}
			checkMulti(t, g, bases, exps)
			checkMulti(t, g, bases, bases)
		}
		list := edges(g)
		turned := slices.Clone(list)
		slices.Reverse(turned)
		checkMulti(t, g, list, list)
		checkMulti(t, g, list, turned)
		for _, a := range list {
			checkMulti(t, g, slices.Repeat([]api.Nat{less(g.P(), 1)}, maxMany), slices.Repeat([]api.Nat{a}, maxMany))
			checkMulti(t, g, []api.Nat{a, g.G()}, []api.Nat{g.Q(), less(g.Q(), 1)})
		}
	}
}

// Pw1: each base is raised to the exp at its place, and each counts.
func TestMultiPlaces(t *testing.T) {
	g := given(t, group.Least())
	for _, n := range []int{1, 2, 3, 7, maxMany - 1, maxMany} {
		list := make([]api.Nat, n)
		for k := range n {
			list[k] = nat.Of(1000 + k)
		}
		for k := range n {
			only := make([]api.Nat, n)
			only[k] = one
			if got, e := power.Multi(g, list, only); got != list[k] || e != api.OK {
				t.Errorf("the place %d of %d: %x, %d", k, n, got, e)
			}
			bases := slices.Repeat([]api.Nat{one}, n)
			bases[k] = nat.Of(2)
			if got, e := power.Multi(g, bases, list); got != wantExp(g, nat.Of(2), list[k]) || e != api.OK {
				t.Errorf("the exp %d of %d: %x, %d", k, n, got, e)
			}
		}
	}
}

// Pw1: of none it is 1, whether a list is nil or empty.
func TestMultiOfNone(t *testing.T) {
	for _, g := range manyGroups(t) {
		for _, bases := range [][]api.Nat{nil, {}} {
			for _, exps := range [][]api.Nat{nil, {}} {
				if got, e := power.Multi(g, bases, exps); got != one || e != api.OK {
					t.Errorf("Multi of none = %x, %d", got, e)
				}
			}
		}
	}
}

// Pw1: lists that are not as long, or too long, are refused, whatever is in them.
func TestMultiLengths(t *testing.T) {
	lengths := []int{0, 1, 2, 3, maxMany - 1, maxMany, maxMany + 1, maxMany + 2, 2 * maxMany, 1000}
	for _, g := range manyGroups(t) {
		for _, n := range lengths {
			for _, m := range lengths {
				if n == m && n <= maxMany {
					continue
				}
				for _, a := range []api.Nat{zero, one, g.G(), all} {
					got, e := power.Multi(g, slices.Repeat([]api.Nat{a}, n), slices.Repeat([]api.Nat{a}, m))
					if got != zero || e != api.ErrArg {
						t.Errorf("%d bases and %d exps: %x, %d", n, m, got, e)
					}
				}
			}
		}
	}
}

// Pw1: what lies in the room behind a list's end does not count, and stays as it was.
func TestMultiRoom(t *testing.T) {
	for _, g := range manyGroups(t) {
		bases := []api.Nat{g.G(), nat.Of(2), nat.Of(3), all}
		exps := []api.Nat{nat.Of(5), nat.Of(7), all, nat.Of(11)}
		wasBases, wasExps := slices.Clone(bases), slices.Clone(exps)
		checkMulti(t, g, bases[:2], exps[:2])
		checkMulti(t, g, bases[:2], exps[:3])
		checkMulti(t, g, bases[:3], exps[:2])
		checkMulti(t, g, bases[:0], exps[:0])
		if !slices.Equal(bases, wasBases) || !slices.Equal(exps, wasExps) {
			t.Error("the room behind the lists has changed")
		}
	}
}

// Pw1: without a group nothing is told.
func TestWithoutAGroup(t *testing.T) {
	refused, _ := group.New(api.Params{})
	for _, g := range []*group.Group{nil, {}, new(group.Group), refused} {
		list := []api.Nat{zero, one, nat.Of(2), all}
		for _, a := range list {
			if power.In(g, a) || power.Of(g, a) != zero || power.Inv(g, a) != zero {
				t.Errorf("something is told of %x", a)
			}
			for _, b := range list {
				if power.Mul(g, a, b) != zero || power.Exp(g, a, b) != zero {
					t.Errorf("something is told of %x and %x", a, b)
				}
			}
		}
		for _, bases := range [][]api.Nat{nil, {}, {one}, list, make([]api.Nat, maxMany+1)} {
			for _, exps := range [][]api.Nat{nil, {}, {one}, list, make([]api.Nat, maxMany+1)} {
				if got, e := power.Multi(g, bases, exps); got != zero || e != api.ErrArg {
					t.Errorf("Multi(%x, %x) = %x, %d", bases, exps, got, e)
				}
			}
		}
	}
}

// Pw2: at the edges, each with each.
func TestLawsAtTheEdges(t *testing.T) {
	for _, g := range manyGroups(t) {
		list := edges(g)
		for _, a := range list {
			for _, b := range list {
				checkLaws(t, g, a, b)
			}
		}
	}
}

// Pw2: naturals that are drawn.
func TestLawsDrawn(t *testing.T) {
	r := rand.New(rand.NewPCG(9, 258))
	for _, g := range manyGroups(t) {
		draw := drawer(g, r)
		for range 100 {
			checkLaws(t, g, draw(), draw())
		}
	}
}

// Pw1, Pw2: a product of powers of members is the power of G by the sum of products of their exponents.
func TestMultiOfMembers(t *testing.T) {
	r := rand.New(rand.NewPCG(9, 259))
	for _, g := range manyGroups(t) {
		draw := drawer(g, r)
		for range 20 {
			n := r.IntN(maxMany + 1)
			bases, logs, exps := make([]api.Nat, n), make([]api.Nat, n), make([]api.Nat, n)
			for k := range n {
				logs[k], exps[k] = draw(), draw()
				bases[k] = power.Of(g, logs[k])
			}
			sum, _ := field.Dot(g, logs, exps)
			if got, e := power.Multi(g, bases, exps); got != power.Of(g, sum) || e != api.OK {
				t.Errorf("Multi(%x, %x) by %x = %x, %d", bases, exps, g.P(), got, e)
			}
		}
	}
}

// FuzzPower looks for naturals at which the subgroup goes wrong.
func FuzzPower(f *testing.F) {
	f.Add(0, uint64(0), uint64(0), uint64(0), uint64(0), uint64(1), uint64(0), uint64(0), uint64(0))
	f.Add(1, uint64(1966023127), uint64(0), uint64(0), uint64(0), uint64(ones), uint64(0), uint64(0), uint64(0))
	f.Add(2, uint64(ones), uint64(ones), uint64(ones), uint64(ones), uint64(ones), uint64(ones), uint64(ones), uint64(ones))
	f.Add(3, uint64(521), uint64(0), uint64(0), uint64(1), uint64(520), uint64(7), uint64(0), uint64(1)<<63)
	groups := manyGroups(f)
	f.Fuzz(func(t *testing.T, which int, a0, a1, a2, a3, b0, b1, b2, b3 uint64) {
		g := groups[uint(which)%uint(len(groups))]
		a, b := api.Nat{a0, a1, a2, a3}, api.Nat{b0, b1, b2, b3}
		checkOne(t, g, a)
		checkOne(t, g, byP(g, toBig(a)))
		checkTwo(t, g, a, b)
		checkLaws(t, g, a, b)
		checkMulti(t, g, []api.Nat{a, b, all}, []api.Nat{b, a, a})
		checkMulti(t, g, []api.Nat{a, b}, []api.Nat{b})
	})
}
