package group_test

import (
	"math/big"
	"math/rand/v2"
	"reflect"
	"slices"
	"testing"

	"sacristy/api"
	"sacristy/group"
	"sacristy/mont"
	"sacristy/nat"
)

const (
	ones        = 1<<64 - 1
	lastWitness = 1<<16 - 1
)

var (
	zero = api.Nat{}
	one  = api.Nat{1}
	all  = api.Nat{ones, ones, ones, ones}
)

// toBig is what the limbs mean, told without the packages that are tested.
func toBig(a api.Nat) *big.Int {
	sum := new(big.Int)
	for k := api.Limbs - 1; k >= 0; k-- {
		sum.Lsh(sum, api.LimbBits)
		sum.Add(sum, new(big.Int).SetUint64(a[k]))
	}
	return sum
}

// fromBig is a number below 2^256, as limbs.
func fromBig(n *big.Int) api.Nat {
	rest := new(big.Int).Set(n)
	var a api.Nat
	for k := range a {
		a[k] = new(big.Int).And(rest, new(big.Int).SetUint64(ones)).Uint64()
		rest.Rsh(rest, api.LimbBits)
	}
	return a
}

// decimal is a natural by its digits, as the document writes them.
func decimal(t *testing.T, digits string) api.Nat {
	t.Helper()
	n, ok := new(big.Int).SetString(digits, 10)
	if !ok || n.BitLen() > api.MaxBits {
		t.Fatalf("%s is no natural", digits)
	}
	return fromBig(n)
}

// shows is layer 4's word 'a witness', told by numbers without a bound.
func shows(n, f *big.Int, a int) bool {
	one := big.NewInt(1)
	if a < 2 || a > lastWitness || f.Sign() == 0 || n.Bit(0) == 0 || n.Cmp(big.NewInt(2)) <= 0 {
		return false
	}
	less := new(big.Int).Sub(n, one)
	often, rest := new(big.Int).QuoRem(less, f, new(big.Int))
	if rest.Sign() != 0 || new(big.Int).Mul(f, f).Cmp(n) <= 0 {
		return false
	}
	witness := big.NewInt(int64(a))
	if new(big.Int).Exp(witness, less, n).Cmp(one) != 0 {
		return false
	}
	root := new(big.Int).Exp(witness, often, n)
	return new(big.Int).GCD(nil, nil, n, root.Sub(root, one)).Cmp(one) == 0
}

// isChain is layer 4's word 'a chain', told by numbers without a bound.
func isChain(l []api.Link) bool {
	if len(l) < 1 || len(l) > api.MaxChain || l[0].A != 0 {
		return false
	}
	first := toBig(l[0].N)
	if first.BitLen() > 16 || !first.ProbablyPrime(0) {
		return false
	}
	for k := range len(l) - 1 {
		if !shows(toBig(l[k+1].N), toBig(l[k].N), l[k+1].A) {
			return false
		}
	}
	return true
}

// isGroup is the chapter's word 'parameters are a group's', told by numbers without a bound.
func isGroup(p api.Params) bool {
	if len(p.Chain) < 2 || !isChain(p.Chain) {
		return false
	}
	last := len(p.Chain) - 1
	bp, bq, bg, one := toBig(p.Chain[last].N), toBig(p.Chain[last-1].N), toBig(p.G), big.NewInt(1)
	return bq.BitLen() >= 10 && bg.Cmp(one) > 0 && bg.Cmp(bp) < 0 && new(big.Int).Exp(bg, bq, bp).Cmp(one) == 0
}

// nextLink is the link of a prime from about so many bits on that f makes; it has fewer than twice as many bits as f.
func nextLink(t *testing.T, f api.Nat, bits int) api.Link {
	t.Helper()
	bf := toBig(f)
	k := new(big.Int).Lsh(big.NewInt(1), uint(bits-1))
	k.Quo(k, bf)
	for range 1 << 14 {
		n := new(big.Int).Mul(k, bf)
		k.Add(k, big.NewInt(1))
		n.Add(n, big.NewInt(1))
		if n.BitLen() < bits || n.Bit(0) == 0 {
			continue
		}
		if n.BitLen() > api.MaxBits || n.Cmp(new(big.Int).Mul(bf, bf)) >= 0 {
			break
		}
		for a := 2; n.ProbablyPrime(0) && a < 100; a++ {
			if shows(n, bf, a) {
				return api.Link{N: fromBig(n), A: a}
			}
		}
	}
	t.Fatalf("%x makes no prime of %d bits", f, bits)
	return api.Link{}
}

// chainOf is a chain from a small prime on, a link for each of bits.
func chainOf(t *testing.T, first int, bits ...int) []api.Link {
	t.Helper()
	l := []api.Link{{N: nat.Of(first)}}
	for _, b := range bits {
		l = append(l, nextLink(t, l[len(l)-1].N, b))
	}
	return l
}

// spawner is the first number, from some number on, whose power is not 1, and spawns the subgroup.
func spawner(t *testing.T, l []api.Link, from int64) api.Nat {
	t.Helper()
	p, q := toBig(l[len(l)-1].N), toBig(l[len(l)-2].N)
	often := new(big.Int).Sub(p, big.NewInt(1))
	often.Quo(often, q)
	for n := from; n < from+100; n++ {
		if g := new(big.Int).Exp(big.NewInt(n), often, p); g.Cmp(big.NewInt(1)) > 0 {
			return fromBig(g)
		}
	}
	t.Fatalf("nothing spawns a subgroup by %x", l)
	return zero
}

// paramsOf are a group's, of a chain.
func paramsOf(t *testing.T, first int, bits ...int) api.Params {
	t.Helper()
	l := chainOf(t, first, bits...)
	return api.Params{Chain: l, G: spawner(t, l, 2)}
}

// manyParams are groups of all numbers of links, from the least ones to the greatest.
func manyParams(t *testing.T) []api.Params {
	t.Helper()
	return []api.Params{
		group.Least(), group.Other(), group.Great(),
		paramsOf(t, 521, 11),                               // the least Q that may be
		paramsOf(t, 593, 11),                               // P as little as it may be: twice Q, and 1
		paramsOf(t, 521, 18),                               // P nearly as long as it may be
		paramsOf(t, 65521, 17),                             // two links, and the greatest Q
		paramsOf(t, 65521, 32),                             // likewise
		paramsOf(t, 2, 2, 3, 5, 8, 14, 26, 50),             // eight links
		paramsOf(t, 65521, 24, 40, 70, 130, 200, 246, 256), // eight links, and both as long as they may be
		paramsOf(t, 32771, 30, 58, 114, 129, 256),          // P twice as long as Q
	}
}

// copied are the same parameters in memory of their own.
func copied(p api.Params) api.Params {
	return api.Params{Chain: slices.Clone(p.Chain), G: p.G}
}

func wantErr(p api.Params) api.Errno {
	if isGroup(p) {
		return api.OK
	}
	return api.ErrBad
}

// checkParams looks whether Check and New answer what the chapter asks for.
func checkParams(t *testing.T, p api.Params) {
	t.Helper()
	was, want := copied(p), wantErr(p)
	if e := group.Check(p); e != want {
		t.Errorf("Check(%x) = %d, not %d", p, e, want)
	}
	g, e := group.New(p)
	if e != want || (g != nil) != (want == api.OK) {
		t.Errorf("New(%x) = %v, %d, not %d", p, g, e, want)
	}
	if p.G != was.G || !slices.Equal(p.Chain, was.Chain) {
		t.Errorf("%x has become %x", was, p)
	}
	if e == api.OK {
		checkGroup(t, g, p)
	}
}

// checkGroup looks whether a group is that of parameters.
func checkGroup(t *testing.T, g *group.Group, p api.Params) {
	t.Helper()
	last := len(p.Chain) - 1
	bigP, bigQ := p.Chain[last].N, p.Chain[last-1].N
	if g.P() != bigP || g.Q() != bigQ || g.G() != p.G {
		t.Errorf("%x has P %x, Q %x, G %x", p, g.P(), g.Q(), g.G())
	}
	if want := (toBig(bigQ).BitLen() - 1) / 8; g.Size() != want {
		t.Errorf("%x has the size %d, not %d", p, g.Size(), want)
	}
	checkRing(t, g.Ring(), bigP)
	checkRing(t, g.Field(), bigQ)
}

// checkRing looks whether a ring is the one below m.
func checkRing(t *testing.T, r *mont.Ring, m api.Nat) {
	t.Helper()
	less, _ := nat.Sub(m, one)
	if r == nil || r.M() != m || r.In(m) || !r.In(less) {
		t.Errorf("%v is not the ring below %x", r, m)
		return
	}
	if got, want := r.Exp(all, all), fromBig(new(big.Int).Exp(toBig(all), toBig(all), toBig(m))); got != want {
		t.Errorf("a power below %x is %x, not %x", m, got, want)
	}
	// One below 0, times itself, is 1.
	if r.Mul(less, less) != one {
		t.Errorf("a product below %x is wrong", m)
	}
}

// Gr1: the three groups that are given, digit by digit.
func TestGiven(t *testing.T) {
	for _, c := range []struct {
		name  string
		got   api.Params
		g     string
		chain []string
	}{
		{"Least", group.Least(), "316543771439780984", []string{"65521", "1966023127", "1055500680322183127"}},
		{"Other", group.Other(), "54624333139524128", []string{"64817", "1815135269", "487269091447081429"}},
		{"Great", group.Great(), "9151157341667469615800997130231454865425018181917904921479972729", []string{"65519", "1313918027", "88175567203779761",
			"6353719225633997551192976661815171", "128868735840905246597005622286753383510486359307609845843856143183"}},
	} {
		want := api.Params{G: decimal(t, c.g)}
		for k, digits := range c.chain {
			link := api.Link{N: decimal(t, digits)}
			if k > 0 {
				link.A = 2
			}
			want.Chain = append(want.Chain, link)
		}
		if !reflect.DeepEqual(c.got, want) {
			t.Errorf("%s() = %x, not %x", c.name, c.got, want)
		}
		if !isGroup(c.got) {
			t.Errorf("%s() is no group's", c.name)
		}
		checkParams(t, c.got)
	}
}

// Gr1: what was done to parameters that were given does not show in those that are given next.
func TestGivenAnew(t *testing.T) {
	for name, give := range map[string]func() api.Params{"Least": group.Least, "Other": group.Other, "Great": group.Great} {
		want := copied(give())
		spoiled := give()
		for k := range spoiled.Chain {
			spoiled.Chain[k] = api.Link{N: all, A: -1}
		}
		_ = append(spoiled.Chain[:1], api.Link{})
		if got := give(); !reflect.DeepEqual(got, want) {
			t.Errorf("%s() has become %x", name, got)
		}
	}
}

// Gr1, Gr2: groups of 2 to 8 links, from the least ones to the greatest.
func TestGroups(t *testing.T) {
	for _, p := range manyParams(t) {
		if e := group.Check(p); e != api.OK {
			t.Errorf("Check(%x) = %d", p, e)
		}
		checkParams(t, p)
	}
}

// Gr1, Gr2: the chain has two links or more, and 8 at most.
func TestChainLengths(t *testing.T) {
	for _, p := range manyParams(t) {
		for k := range len(p.Chain) + 1 {
			checkParams(t, api.Params{Chain: p.Chain[:k], G: p.G})
			checkParams(t, api.Params{Chain: p.Chain[k:], G: p.G})
		}
		for k := range len(p.Chain) - 1 {
			l := p.Chain[:k+2]
			if toBig(l[k].N).BitLen() >= 10 {
				checkParams(t, api.Params{Chain: l, G: spawner(t, l, 2)})
			}
		}
	}
	for _, p := range []api.Params{{}, {G: one}, {G: nat.Of(2)}, {Chain: []api.Link{}, G: nat.Of(2)}, {Chain: []api.Link{{N: nat.Of(65521)}}, G: nat.Of(2)},
		{Chain: make([]api.Link, 2), G: nat.Of(2)}, {Chain: make([]api.Link, 1<<16), G: nat.Of(2)}} {
		if group.Check(p) != api.ErrBad {
			t.Errorf("Check(%x) finds a group", p)
		}
		checkParams(t, p)
	}
	nine := paramsOf(t, 2, 2, 3, 5, 8, 14, 26, 50, 90)
	if e := group.Check(nine); len(nine.Chain) != api.MaxChain+1 || e != api.ErrBad {
		t.Errorf("nine links: %d", e)
	}
}

// Gr1, Gr2: one link alone is no group's, even with what would spawn one by it.
func TestOneLink(t *testing.T) {
	for g := range 1000 {
		checkParams(t, api.Params{Chain: []api.Link{{N: nat.Of(521)}}, G: nat.Of(g)})
	}
}

// Gr1, Gr2: Q has 10 bits or more.
func TestOrderBits(t *testing.T) {
	for _, c := range []struct {
		q    int
		want api.Errno
	}{{5, api.ErrBad}, {11, api.ErrBad}, {251, api.ErrBad}, {257, api.ErrBad}, {499, api.ErrBad}, {503, api.ErrBad}, {509, api.ErrBad},
		{521, api.OK}, {523, api.OK}, {1021, api.OK}, {1031, api.OK}, {32771, api.OK}, {65521, api.OK}} {
		p := paramsOf(t, c.q, nat.Len(nat.Of(c.q))+1)
		if e := group.Check(p); e != c.want {
			t.Errorf("Check with Q %d = %d", c.q, e)
		}
		checkParams(t, p)
	}
	// Of an even Q there is not even a field.
	checkParams(t, api.Params{Chain: []api.Link{{N: nat.Of(2)}, {N: nat.Of(3), A: 2}}, G: nat.Of(2)})
	// It is the bits of Q, not those of the first link, nor those of P.
	if e := group.Check(paramsOf(t, 5, 4, 7, 10, 18)); e != api.OK {
		t.Errorf("a chain that begins with 5: %d", e)
	}
	if e := group.Check(paramsOf(t, 5, 4, 7, 9, 17)); e != api.ErrBad {
		t.Errorf("a chain whose Q has 9 bits: %d", e)
	}
}

// Gr1, Gr2: of all numbers up to twice P and more, G is one of the subgroup, but not 1.
func TestEveryG(t *testing.T) {
	for _, p := range []api.Params{paramsOf(t, 521, 11), paramsOf(t, 523, 14)} {
		last := len(p.Chain) - 1
		bigP, _ := nat.Int(p.Chain[last].N)
		bigQ, _ := nat.Int(p.Chain[last-1].N)
		right := 0
		for g := range 2*bigP + 3 {
			p.G = nat.Of(g)
			if group.Check(p) == api.OK {
				right++
			}
			checkParams(t, p)
		}
		if right != bigQ-1 {
			t.Errorf("%d numbers spawn a subgroup of %d", right, bigQ)
		}
	}
}

// Gr1, Gr2: G is not 0, not 1, below P, and its power by Q is 1, also where numbers are long.
func TestWrongG(t *testing.T) {
	for _, p := range manyParams(t) {
		last := p.Chain[len(p.Chain)-1].N
		less, _ := nat.Sub(last, one)
		more, _ := nat.Add(last, one)
		over, carry := nat.Add(last, p.G)
		wrong := []api.Nat{zero, one, less, last, more, all}
		if carry == 0 {
			wrong = append(wrong, over) // by P, it is G
		}
		for _, g := range wrong {
			p.G = g
			if e := group.Check(p); e != api.ErrBad {
				t.Errorf("Check(%x) = %d", p, e)
			}
			checkParams(t, p)
		}
	}
}

// Gr1, Gr2: each limb, and each bit, of G matters.
func TestSpoiledG(t *testing.T) {
	for _, p := range []api.Params{group.Least(), group.Other(), group.Great()} {
		right := p.G
		for k := range api.MaxBits {
			p.G = right
			p.G[k/api.LimbBits] ^= 1 << (k % api.LimbBits)
			if e := group.Check(p); e != api.ErrBad {
				t.Errorf("Check(%x) = %d", p, e)
			}
			checkParams(t, p)
		}
	}
}

// Gr1, Gr2: the chain is one, wherever it is spoiled.
func TestSpoiledChain(t *testing.T) {
	for _, right := range manyParams(t) {
		for k := range right.Chain {
			for _, change := range []func(l *api.Link){
				func(l *api.Link) { l.A = 1 - l.A%2 },
				func(l *api.Link) { l.A = -l.A - 1 },
				func(l *api.Link) { l.A += 1 << 32 },
				func(l *api.Link) { l.A = api.MinInt },
				func(l *api.Link) { l.A = api.MaxInt },
				func(l *api.Link) { l.N = zero },
				func(l *api.Link) { l.N = one },
				func(l *api.Link) { l.N = all },
				func(l *api.Link) { l.N[0]-- },
				func(l *api.Link) { l.N[0] += 2 },
				func(l *api.Link) { l.N[3] ^= 1 << 63 },
			} {
				p := copied(right)
				change(&p.Chain[k])
				if group.Check(p) != api.ErrBad {
					t.Errorf("Check(%x) finds a group, in spite of link %d", p, k)
				}
				checkParams(t, p)
			}
			gone := api.Params{Chain: slices.Delete(slices.Clone(right.Chain), k, k+1), G: right.G}
			twice := api.Params{Chain: slices.Insert(slices.Clone(right.Chain), k, right.Chain[k]), G: right.G}
			checkParams(t, gone)
			checkParams(t, twice)
		}
		turned := copied(right)
		slices.Reverse(turned.Chain)
		checkParams(t, turned)
	}
}

// Gr1, Gr2: a Q that is no prime is no order, however well the rest goes together.
func TestOrderNoPrime(t *testing.T) {
	// 561 is no prime, but 2 shows that 1123 is one, if 561 is.
	if !shows(big.NewInt(1123), big.NewInt(561), 2) {
		t.Fatal("2 shows nothing")
	}
	p := api.Params{Chain: []api.Link{{N: nat.Of(561)}, {N: nat.Of(1123), A: 2}}, G: nat.Of(4)}
	if new(big.Int).Exp(big.NewInt(4), big.NewInt(561), big.NewInt(1123)).Cmp(big.NewInt(1)) != 0 {
		t.Fatal("4 to the 561 is not 1")
	}
	if group.Check(p) != api.ErrBad {
		t.Error("561 is taken for an order")
	}
	checkParams(t, p)
}

// Gr1, Gr2: what of one group is laid into another one makes none.
func TestMixed(t *testing.T) {
	groups := []api.Params{group.Least(), group.Other(), group.Great()}
	for i, a := range groups {
		for j, b := range groups {
			p := api.Params{Chain: a.Chain, G: b.G}
			if (group.Check(p) == api.OK) != (i == j) {
				t.Errorf("Check of the chain of %d, and the G of %d", i, j)
			}
			checkParams(t, p)
			for k := range min(len(a.Chain), len(b.Chain)) {
				p = copied(a)
				p.Chain[k] = b.Chain[k]
				checkParams(t, p)
			}
		}
	}
}

// Gr2: sizes, also where Q's bits are just enough for a byte more.
func TestSize(t *testing.T) {
	for _, c := range []struct {
		p          api.Params
		bits, want int
	}{
		{group.Least(), 31, 3}, {group.Other(), 31, 3}, {group.Great(), 113, 14},
		{paramsOf(t, 521, 11), 10, 1}, {paramsOf(t, 32771, 17), 16, 1}, {paramsOf(t, 65521, 17), 16, 1},
		{paramsOf(t, 257, 11, 17, 32), 17, 2}, {paramsOf(t, 32771, 24, 40), 24, 2}, {paramsOf(t, 32771, 25, 40), 25, 3},
		{paramsOf(t, 65521, 31, 50, 64, 74), 64, 7}, {paramsOf(t, 65521, 31, 50, 65, 75), 65, 8},
		{paramsOf(t, 65521, 31, 60, 110, 200, 248, 256), 248, 30}, {paramsOf(t, 65521, 31, 60, 110, 200, 249, 256), 249, 31},
	} {
		g, e := group.New(c.p)
		if e != api.OK || nat.Len(g.Q()) != c.bits {
			t.Errorf("New(%x) = %x, %d", c.p, g.Q(), e)
			continue
		}
		if g.Size() != c.want {
			t.Errorf("a Q of %d bits has the size %d, not %d", c.bits, g.Size(), c.want)
		}
	}
}

// Gr2: a number of so many bytes is always below Q, of one byte more not always.
func TestSizeFits(t *testing.T) {
	for _, p := range manyParams(t) {
		g, _ := group.New(p)
		end := new(big.Int).Lsh(big.NewInt(1), uint(8*g.Size()))
		next := new(big.Int).Lsh(end, 8)
		if end.Cmp(toBig(g.Q())) > 0 || next.Cmp(toBig(g.Q())) <= 0 {
			t.Errorf("%d bytes by %x", g.Size(), g.Q())
		}
	}
}

// Gr2: a group keeps what it is, whatever becomes of the parameters, and of other groups.
func TestKept(t *testing.T) {
	for _, right := range manyParams(t) {
		p := copied(right)
		g, e := group.New(p)
		if e != api.OK {
			t.Fatalf("New(%x) = %d", p, e)
		}
		for k := range p.Chain {
			p.Chain[k] = api.Link{}
		}
		p.G = zero
		checkGroup(t, g, right)
		if _, e := group.New(p); e != api.ErrBad {
			t.Errorf("New(%x) = %d", p, e)
		}
		if _, e := group.New(group.Other()); e != api.OK {
			t.Errorf("New(Other()) = %d", e)
		}
		checkGroup(t, g, right)
	}
}

// Gr1, Gr2: what lies behind the chain's end is neither looked at nor changed.
func TestBehindTheEnd(t *testing.T) {
	for _, right := range manyParams(t) {
		room := append(slices.Clone(right.Chain), api.Link{N: all, A: 7}, api.Link{N: nat.Of(7), A: -1})
		was := slices.Clone(room)
		p := api.Params{Chain: room[:len(right.Chain)], G: right.G}
		checkParams(t, p)
		if !slices.Equal(room, was) {
			t.Errorf("%x has become %x", was, room)
		}
	}
}

// Gr2: a group that New did not give is nothing.
func TestNotGiven(t *testing.T) {
	refused, e := group.New(api.Params{})
	if e != api.ErrBad || refused != nil {
		t.Errorf("New of nothing = %v, %d", refused, e)
	}
	for _, g := range []*group.Group{nil, {}, new(group.Group), refused} {
		if g.P() != zero || g.Q() != zero || g.G() != zero || g.Size() != 0 || g.Ring() != nil || g.Field() != nil {
			t.Errorf("%v is something", g)
		}
	}
}

// Gr3: the subgroup has Q members; powers are the same just if their exponents are by Q.
func TestMembers(t *testing.T) {
	for _, p := range []api.Params{paramsOf(t, 521, 11), paramsOf(t, 1021, 19), paramsOf(t, 65521, 17)} {
		g, e := group.New(p)
		if e != api.OK {
			t.Fatalf("New(%x) = %d", p, e)
		}
		q, _ := nat.Int(g.Q())
		exponent := map[api.Nat]int{}
		for x := range 2*q + 5 {
			power := g.Ring().Exp(g.G(), nat.Of(x))
			if first, seen := exponent[power]; seen != (x >= q) || seen && first != x%q {
				t.Fatalf("the power by %d is that by %d, by %d", x, first, q)
			}
			if x < q {
				exponent[power] = x
			}
		}
		if len(exponent) != q {
			t.Errorf("%d members, not %d", len(exponent), q)
		}
	}
}

// Gr3: the same, of long exponents that are drawn.
func TestPowersDrawn(t *testing.T) {
	r := rand.New(rand.NewPCG(7, 256))
	for _, p := range manyParams(t) {
		g, _ := group.New(p)
		q := toBig(g.Q())
		for range 20 {
			x := api.Nat{r.Uint64(), r.Uint64(), r.Uint64(), r.Uint64()}
			rest := fromBig(new(big.Int).Mod(toBig(x), q))
			next, _ := nat.Add(rest, one)
			power := g.Ring().Exp(g.G(), x)
			if power != g.Ring().Exp(g.G(), rest) || power == g.Ring().Exp(g.G(), next) {
				t.Errorf("powers by %x, in %x", x, p)
			}
			y := nat.Down(api.Nat{r.Uint64(), r.Uint64(), r.Uint64(), r.Uint64()}, r.IntN(api.MaxBits))
			same := new(big.Int).Mod(new(big.Int).Sub(toBig(x), toBig(y)), q).Sign() == 0
			if (power == g.Ring().Exp(g.G(), y)) != same {
				t.Errorf("powers by %x and %x, in %x", x, y, p)
			}
		}
		if g.Ring().Exp(g.G(), g.Q()) != one || g.Ring().Exp(g.G(), zero) != one {
			t.Errorf("the power by Q is not 1 in %x", p)
		}
	}
}

// Gr1, Gr2: drawn changes of groups.
func TestDrawn(t *testing.T) {
	r := rand.New(rand.NewPCG(7, 257))
	groups := manyParams(t)
	for range 2000 {
		p := copied(groups[r.IntN(len(groups))])
		switch r.IntN(4) {
		case 0:
			p.G[r.IntN(api.Limbs)] ^= r.Uint64() >> r.IntN(64)
		case 1:
			p.G = spawner(t, p.Chain, 2+r.Int64N(1000))
		case 2:
			p.Chain[r.IntN(len(p.Chain))].A = r.IntN(200)
		case 3:
			p.Chain[r.IntN(len(p.Chain))].N[r.IntN(api.Limbs)] ^= 1 << r.IntN(64)
		}
		checkParams(t, p)
	}
}

// FuzzGroup looks for parameters at which Check or New answer what the chapter does not ask for.
func FuzzGroup(f *testing.F) {
	f.Add(0, 0, 0, 2, uint64(0), uint64(0), uint64(0), uint64(0), 3)
	f.Add(1, 1, 200, 3, uint64(1), uint64(0), uint64(0), uint64(0), 2)
	f.Add(2, 4, 64, 2, uint64(0), uint64(0), uint64(0), uint64(1), 5)
	f.Add(3, 1, -1, 2, uint64(0), uint64(0), uint64(0), uint64(0), 2)
	f.Fuzz(func(t *testing.T, which, link, bit, witness int, g0, g1, g2, g3 uint64, links int) {
		small := api.Params{Chain: []api.Link{{N: nat.Of(521)}, {N: nat.Of(16673), A: 2}}, G: nat.Of(2496)}
		p := []api.Params{group.Least(), group.Other(), group.Great(), small}[uint(which)%4]
		p.G = api.Nat{p.G[0] ^ g0, p.G[1] ^ g1, p.G[2] ^ g2, p.G[3] ^ g3}
		at := &p.Chain[uint(link)%uint(len(p.Chain))]
		if bit >= 0 && bit < api.MaxBits {
			at.N[bit/api.LimbBits] ^= 1 << (bit % api.LimbBits)
		}
		if at.A != 0 {
			at.A = witness
		}
		p.Chain = p.Chain[:min(max(links, 0), len(p.Chain))]
		checkParams(t, p)
	})
}
