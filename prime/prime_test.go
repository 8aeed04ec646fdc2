package prime_test

import (
	"math/big"
	"math/rand/v2"
	"slices"
	"testing"

	"sacristy/api"
	"sacristy/nat"
	"sacristy/prime"
)

const (
	ones        = 1<<64 - 1
	lastWitness = 1<<16 - 1
	lastTried   = 100
)

var (
	zero = api.Nat{}
	one  = api.Nat{1}
	all  = api.Nat{ones, ones, ones, ones}
)

// toBig is what the limbs mean, told without the packages that are tested.
func toBig(a api.Nat) *big.Int {
	sum := new(big.Int)
	for k := api.Limbs - 1; k >= 0; k-- {
		sum.Lsh(sum, api.LimbBits)
		sum.Add(sum, new(big.Int).SetUint64(a[k]))
	}
	return sum
}

// fromBig is a number below 2^256, as limbs.
func fromBig(n *big.Int) api.Nat {
	rest := new(big.Int).Set(n)
	var a api.Nat
	for k := range a {
		a[k] = new(big.Int).And(rest, new(big.Int).SetUint64(ones)).Uint64()
		rest.Rsh(rest, api.LimbBits)
	}
	return a
}

// decimal is a natural by its digits, as the document writes them.
func decimal(t *testing.T, digits string) api.Nat {
	t.Helper()
	n, ok := new(big.Int).SetString(digits, 10)
	if !ok || n.BitLen() > api.MaxBits {
		t.Fatalf("%s is no natural", digits)
	}
	return fromBig(n)
}

// sieve tells of each number below 2^17 whether it is a prime, without a division.
func sieve() []bool {
	is := make([]bool, 1<<17)
	for n := range is {
		is[n] = n > 1
	}
	for d := range is {
		for n := d * d; is[d] && n < len(is); n += d {
			is[n] = false
		}
	}
	return is
}

// shows is the chapter's word 'a witness', told by numbers without a bound.
func shows(n, f api.Nat, a int) bool {
	if a < 2 || a > lastWitness || f == zero {
		return false
	}
	bn, bf, ba, one := toBig(n), toBig(f), big.NewInt(int64(a)), big.NewInt(1)
	if bn.Bit(0) == 0 || bn.Cmp(big.NewInt(2)) <= 0 {
		return false
	}
	less := new(big.Int).Sub(bn, one)
	often, rest := new(big.Int).QuoRem(less, bf, new(big.Int))
	if rest.Sign() != 0 || new(big.Int).Mul(bf, bf).Cmp(bn) <= 0 {
		return false
	}
	if new(big.Int).Exp(ba, less, bn).Cmp(one) != 0 {
		return false
	}
	root := new(big.Int).Exp(ba, often, bn)
	return new(big.Int).GCD(nil, nil, bn, root.Sub(root, one)).Cmp(one) == 0
}

// leastWitness is the least one from 2 to last, 0 of none.
func leastWitness(n, f api.Nat, last int) int {
	for a := 2; a <= last; a++ {
		if shows(n, f, a) {
			return a
		}
	}
	return 0
}

// nextLink is the link of the least prime from about so many bits on that f makes.
func nextLink(t *testing.T, f api.Nat, bits int) api.Link {
	t.Helper()
	bf := toBig(f)
	k := new(big.Int).Lsh(big.NewInt(1), uint(bits-1))
	k.Quo(k, bf)
	for range 1 << 14 {
		n := new(big.Int).Mul(k, bf)
		k.Add(k, big.NewInt(1))
		n.Add(n, big.NewInt(1))
		if n.BitLen() > api.MaxBits || n.Cmp(new(big.Int).Mul(bf, bf)) >= 0 {
			break
		}
		if !n.ProbablyPrime(20) {
			continue
		}
		if a := leastWitness(fromBig(n), f, lastTried); a > 0 {
			return api.Link{N: fromBig(n), A: a}
		}
	}
	t.Fatalf("%x makes no prime of %d bits", f, bits)
	return api.Link{}
}

// chainOf is a chain from a small prime on, a link for each of bits.
func chainOf(t *testing.T, first int, bits ...int) []api.Link {
	t.Helper()
	l := []api.Link{{N: nat.Of(first)}}
	for _, b := range bits {
		l = append(l, nextLink(t, l[len(l)-1].N, b))
	}
	return l
}

// groupChains are the chains of the three groups that the document's chapter 7 gives.
func groupChains(t *testing.T) [][]api.Link {
	t.Helper()
	var chains [][]api.Link
	for _, digits := range [][]string{
		{"65521", "1966023127", "1055500680322183127"},
		{"64817", "1815135269", "487269091447081429"},
		{"65519", "1313918027", "88175567203779761", "6353719225633997551192976661815171", "128868735840905246597005622286753383510486359307609845843856143183"},
	} {
		l := []api.Link{{N: decimal(t, digits[0])}}
		for _, d := range digits[1:] {
			l = append(l, api.Link{N: decimal(t, d), A: 2})
		}
		chains = append(chains, l)
	}
	return chains
}

// Pr1: Small, of every number from below 0 to 2^17.
func TestSmall(t *testing.T) {
	for n, is := range sieve() {
		if got, want := prime.Small(n), is && n < api.SmallPrime; got != want {
			t.Errorf("Small(%d) = %v", n, got)
		}
		if prime.Small(-n) {
			t.Errorf("Small(-%d)", n)
		}
	}
}

// Pr1: Small, at its edges, and far beyond them.
func TestSmallEdges(t *testing.T) {
	for _, n := range []int{2, 3, 5, 7, 13, 251, 257, 65519, 65521} {
		if !prime.Small(n) {
			t.Errorf("%d is a prime", n)
		}
	}
	// 65537, 2^31 - 1 and 2^61 - 1 are primes, but not below 2^16; others are such by 2^16, 2^32 and 2^63 only.
	for _, n := range []int{0, 1, 4, 9, 251 * 251, 251 * 257, 255 * 257, 65535, 65536, 65537, 65539, 65536 + 7, 1<<31 - 1, 1<<32 + 7, 1<<61 - 1, api.MaxInt,
		-1, -2, -3, -7, -65521, api.MinInt, api.MinInt + 7} {
		if prime.Small(n) {
			t.Errorf("%d is taken for a prime below 2^16", n)
		}
	}
}

func checkStep(t *testing.T, n, f api.Nat, a int) {
	t.Helper()
	if got, want := prime.Step(n, f, a), shows(n, f, a); got != want {
		t.Errorf("Step(%x, %x, %d) = %v", n, f, a, got)
	}
}

// Pr1: Step, of the chapter's example, and of others that are counted by hand.
func TestStepShows(t *testing.T) {
	for _, c := range []struct{ n, f, a int }{
		{11, 5, 2}, {3, 2, 2}, {3, 2, 5}, {5, 4, 2}, {7, 3, 2}, {7, 3, 3}, {23, 11, 2}, {683, 31, 3}, {1966023127, 65521, 2},
		// It is not asked whether factor is a prime.
		{561, 560, 2}, {15, 14, 14},
	} {
		if !prime.Step(nat.Of(c.n), nat.Of(c.f), c.a) {
			t.Errorf("%d does not show that %d is a prime, if %d is", c.a, c.n, c.f)
		}
		checkStep(t, nat.Of(c.n), nat.Of(c.f), c.a)
	}
}

// Pr1: Step, where one of the things that are asked of a witness is missing.
func TestStepShowsNot(t *testing.T) {
	for why, list := range map[string][]struct{ n, f, a int }{
		"n is even, or not above 2":       {{0, 1, 2}, {0, 3, 2}, {1, 1, 2}, {1, 2, 2}, {2, 1, 3}, {2, 2, 3}, {4, 3, 5}, {12, 11, 13}, {10, 9, 3}},
		"factor does not go into n - 1":   {{11, 4, 2}, {11, 7, 2}, {11, 11, 2}, {11, 20, 2}, {23, 10, 5}, {11, 0, 2}, {3, 0, 2}},
		"factor times factor is too few":  {{11, 1, 2}, {11, 2, 2}, {31, 5, 2}, {31, 5, 3}, {3, 1, 2}, {17, 4, 3}, {37, 6, 2}, {1966023127, 2, 3}},
		"the power by n - 1 is not 1":     {{15, 7, 2}, {21, 5, 2}, {21, 10, 2}, {9, 4, 2}, {25, 8, 3}, {11, 5, 11}, {11, 5, 22}, {561, 560, 3}},
		"the root is 1":                   {{11, 5, 10}, {11, 5, 12}, {11, 5, 23}, {683, 31, 2}, {31, 6, 2}, {7, 3, 6}, {13741, 229, 2}, {63973, 1777, 2}},
		"the root, less 1, has a divisor": {{15, 14, 4}, {91, 90, 22}, {561, 560, 35}},
	} {
		for _, c := range list {
			if prime.Step(nat.Of(c.n), nat.Of(c.f), c.a) {
				t.Errorf("Step(%d, %d, %d), but %s", c.n, c.f, c.a, why)
			}
		}
	}
}

// Pr1: Step, of all small naturals, and all witnesses that are small.
func TestStepSmall(t *testing.T) {
	for n := range 110 {
		for f := range n + 3 {
			for a := -2; a < n+4; a++ {
				checkStep(t, nat.Of(n), nat.Of(f), a)
			}
		}
	}
}

// Pr1: a witness is one of 2 to 2^16 - 1, even if others would do as well.
func TestStepWitnessBounds(t *testing.T) {
	for _, c := range []struct{ n, f int }{{3, 2}, {11, 5}, {7, 3}, {23, 11}, {683, 31}, {1966023127, 65521}} {
		n, f := nat.Of(c.n), nat.Of(c.f)
		for a := lastWitness - 60; a <= lastWitness+60; a++ {
			checkStep(t, n, f, a)
		}
		for _, a := range []int{api.MinInt, api.MinInt + 2, -1 << 32, -65534, -2, -1, 0, 1, 1 << 16, 1<<16 + 2, 1<<17 + 2, 1<<32 + 2, 1<<62 + 2, api.MaxInt - 1, api.MaxInt} {
			if prime.Step(n, f, a) {
				t.Errorf("Step(%d, %d, %d): that is no witness", c.n, c.f, a)
			}
		}
	}
	// By 11 it is 9: only that it is too great speaks against it.
	if !prime.Step(nat.Of(11), nat.Of(5), 9) || prime.Step(nat.Of(11), nat.Of(5), 1<<16) {
		t.Error("2^16 is taken for a witness")
	}
	if !prime.Step(nat.Of(1966023127), nat.Of(65521), lastWitness) || !prime.Step(nat.Of(11), nat.Of(5), lastWitness) {
		t.Error("2^16 - 1 is not taken for a witness")
	}
}

// Pr1: Step, where factor times factor is beyond 2^256: it is above n, whatever its lower bits are.
func TestStepWide(t *testing.T) {
	f := api.Nat{51, 0, 1}
	n := api.Nat{0xffffffffffffda27, ones, 0xffffffffffffff74, ones}
	for _, a := range []int{2, 3, 5, lastWitness} {
		if !prime.Step(n, f, a) {
			t.Errorf("Step(%x, %x, %d)", n, f, a)
		}
		checkStep(t, n, f, a)
	}
	if a, e := prime.Witness(n, f); a != 2 || e != api.OK {
		t.Errorf("Witness(%x, %x) = %d %d", n, f, a, e)
	}
	edges := []api.Nat{zero, one, {2}, {3}, {7}, {ones}, {0, 1}, {1, 1}, {ones, ones}, {0, 0, 1}, {1, 0, 1}, {51, 0, 1}, {ones, ones, ones}, {0, 0, 0, 1 << 63},
		{ones - 188, ones, ones, ones}, {ones - 189, ones, ones, ones}, {ones, ones, ones, 1<<63 - 1}, {ones - 1, ones, ones, ones}, all, n, {0xffffffffffffda26, ones, 0xffffffffffffff74, ones}}
	for _, n := range edges {
		for _, f := range edges {
			for _, a := range []int{0, 2, 3, lastWitness, 1 << 16} {
				checkStep(t, n, f, a)
			}
		}
	}
}

// drawer gives naturals of all lengths, of a seed that stays the same.
type drawer struct{ r *rand.Rand }

func newDrawer() drawer { return drawer{rand.New(rand.NewPCG(4, 256))} }

func (d drawer) draw(bits int) api.Nat {
	a := api.Nat{d.r.Uint64(), d.r.Uint64(), d.r.Uint64(), d.r.Uint64()}
	return nat.Down(a, api.MaxBits-bits)
}

// drawPair is n and f, of which f goes into n - 1; f is about half as long as n, so that its square is above n, or not.
func (d drawer) drawPair() (n, f api.Nat) {
	bits := 3 + d.r.IntN(126)
	f = d.draw(bits)
	f[0] |= 1
	k := d.draw(bits - 1)
	k[0] &^= 1
	product := new(big.Int).Mul(toBig(f), toBig(k))
	return fromBig(product.Add(product, big.NewInt(1))), f
}

// Pr1: Step and Witness, of drawn naturals.
func TestStepDrawn(t *testing.T) {
	d := newDrawer()
	for range 4000 {
		n, f := d.drawPair()
		checkStep(t, n, f, 2+d.r.IntN(lastWitness-1))
		checkStep(t, n, d.draw(1+d.r.IntN(api.MaxBits)), 2)
	}
	for range 60 {
		n, f := d.drawPair()
		checkWitness(t, n, f)
	}
}

// Pr1: Step, of primes of all lengths, and of what they are not next to.
func TestStepPrimes(t *testing.T) {
	d := newDrawer()
	for _, l := range longChains(t) {
		for k := range len(l) - 1 {
			n, f := l[k+1].N, l[k].N
			for _, a := range []int{2, 3, 5, 97, 2 + d.r.IntN(lastWitness-1), lastWitness} {
				checkStep(t, n, f, a)
			}
			more, _ := nat.Add(n, one)
			less, _ := nat.Sub(n, one)
			for _, c := range [][2]api.Nat{{more, f}, {less, f}, {f, n}, {n, n}, {n, less}, {n, nat.Down(less, 1)}, {n, zero}, {n, one}, {n, {2}}} {
				checkStep(t, c[0], c[1], 2)
			}
		}
	}
}

// longChains are chains of all numbers of links, up to the greatest naturals.
func longChains(t *testing.T) [][]api.Link {
	return append(groupChains(t),
		chainOf(t, 65521, 24, 40, 70, 130, 200, 240, 256),
		chainOf(t, 2, 2, 3, 5, 8, 14, 26, 50),
		chainOf(t, 32771, 30, 58, 114, 226, 256),
		chainOf(t, 65521, 31, 61, 121, 240))
}

// Pr1: Check, of chains of 1 to 8 links.
func TestCheck(t *testing.T) {
	for _, l := range longChains(t) {
		for k := range l {
			if e := prime.Check(l[:k+1]); e != api.OK {
				t.Errorf("Check(%x) = %d", l[:k+1], e)
			}
		}
	}
	for n, is := range sieve() {
		want := api.ErrBad
		if is && n < api.SmallPrime {
			want = api.OK
		}
		if got := prime.Check([]api.Link{{N: nat.Of(n)}}); got != want {
			t.Errorf("Check of %d alone = %d", n, got)
		}
	}
}

// Pr1: a chain has 1 to 8 links.
func TestCheckLengths(t *testing.T) {
	if prime.Check(nil) != api.ErrBad || prime.Check([]api.Link{}) != api.ErrBad {
		t.Error("no link is a chain")
	}
	l := chainOf(t, 2, 2, 3, 5, 8, 14, 26, 50, 90)
	if len(l) != api.MaxChain+1 {
		t.Fatal(len(l))
	}
	if e := prime.Check(l[:api.MaxChain]); e != api.OK {
		t.Errorf("eight links: %d", e)
	}
	if e := prime.Check(l); e != api.ErrBad {
		t.Errorf("nine links: %d", e)
	}
	if e := prime.Check(slices.Repeat(l[:1], 1<<16)); e != api.ErrBad {
		t.Errorf("very many links: %d", e)
	}
}

// Pr1: the first link's N is a prime below 2^16, its A 0.
func TestCheckFirst(t *testing.T) {
	bad := []api.Link{{}, {N: one}, {N: api.Nat{4}}, {N: api.Nat{65535}}, {N: api.Nat{65536}}, {N: api.Nat{65537}}, {N: api.Nat{1966023127}}, {N: all},
		{N: api.Nat{7, 1}}, {N: api.Nat{7, 0, 1}}, {N: api.Nat{7, 0, 0, 1}}, {N: api.Nat{1<<63 + 7}}, {N: api.Nat{1<<16 + 7}}, {N: api.Nat{1<<32 + 7}},
		{N: api.Nat{5}, A: 1}, {N: api.Nat{5}, A: 2}, {N: api.Nat{5}, A: -1}, {N: api.Nat{5}, A: api.MinInt}, {N: api.Nat{5}, A: 1 << 32}, {N: api.Nat{5}, A: api.MaxInt}}
	for _, l := range bad {
		if e := prime.Check([]api.Link{l}); e != api.ErrBad {
			t.Errorf("Check of %x alone = %d", l, e)
		}
		if e := prime.Check([]api.Link{l, {N: api.Nat{11}, A: 2}}); e != api.ErrBad {
			t.Errorf("Check with %x ahead = %d", l, e)
		}
	}
	// 9 makes 19 a prime by what is asked of a witness, but is none itself.
	if !prime.Step(nat.Of(19), nat.Of(9), 2) || prime.Check([]api.Link{{N: nat.Of(9)}, {N: nat.Of(19), A: 2}}) != api.ErrBad {
		t.Error("a chain begins with 9")
	}
}

// Pr1: each link's A shows that its N is a prime, if the N ahead is; wherever in the chain one does not.
func TestCheckLinks(t *testing.T) {
	for _, l := range longChains(t) {
		for k := range l {
			spoil := func(why string, change func(link *api.Link)) {
				t.Helper()
				spoiled := slices.Clone(l)
				change(&spoiled[k])
				if e := prime.Check(spoiled); e != api.ErrBad {
					t.Errorf("Check(%x) = %d, but link %d has %s", spoiled, e, k, why)
				}
			}
			wrong := []int{0, 1, -2, 1 << 16, 1<<16 + 2, 1<<32 + 2, api.MaxInt, api.MinInt}
			if k == 0 {
				wrong = []int{1, 2, -2, 1 << 16, 1 << 32, api.MaxInt, api.MinInt}
			}
			for _, a := range wrong {
				spoil("a wrong witness", func(link *api.Link) { link.A = a })
			}
			spoil("another number", func(link *api.Link) { link.N[0] += 2 })
			spoil("0", func(link *api.Link) { link.N = zero })
			spoil("the greatest number", func(link *api.Link) { link.N = all })
			spoil("a bit too many", func(link *api.Link) { link.N[3] ^= 1 << 63 })
		}
		if len(l) > 1 {
			turned := slices.Clone(l)
			slices.Reverse(turned)
			if prime.Check(turned) != api.ErrBad || prime.Check(l[1:]) != api.ErrBad || prime.Check(append(l[:1:1], l[0])) != api.ErrBad {
				t.Errorf("%x is a chain turned round, without its first link, and with it twice", l)
			}
		}
		if len(l) > 2 {
			if e := prime.Check(slices.Delete(slices.Clone(l), 1, 2)); e != api.ErrBad {
				t.Errorf("%x is a chain without its second link", l)
			}
		}
	}
}

// Pr1: all links are looked at, those between as well.
func TestCheckBetween(t *testing.T) {
	// 15 is no prime, but 31 is shown by it; 7 is shown by 3, and does not make 15.
	if !prime.Step(nat.Of(31), nat.Of(15), 3) {
		t.Fatal("3 shows that 31 is a prime, if 15 is")
	}
	if e := prime.Check([]api.Link{{N: nat.Of(7)}, {N: nat.Of(15), A: 2}, {N: nat.Of(31), A: 3}}); e != api.ErrBad {
		t.Errorf("a chain by 15: %d", e)
	}
}

// R3: what is handed to Check stays as it is, and what lies behind its end is not read.
func TestCheckLeavesList(t *testing.T) {
	for _, l := range longChains(t) {
		room := append(slices.Clone(l), api.Link{N: all, A: -1}, api.Link{N: nat.Of(4)})
		kept := slices.Clone(room)
		for k := range l {
			if e := prime.Check(room[:k+1]); e != api.OK {
				t.Errorf("Check(%x), with more behind its end = %d", room[:k+1], e)
			}
		}
		if e := prime.Check(room[:0]); e != api.ErrBad {
			t.Errorf("Check of none, with a chain behind its end = %d", e)
		}
		if !slices.Equal(room, kept) {
			t.Error("Check has changed what it was given")
		}
	}
}

func checkWitness(t *testing.T, n, f api.Nat) {
	t.Helper()
	want, why := leastWitness(n, f, lastTried), api.OK
	if want == 0 {
		why = api.ErrNone
	}
	if got, e := prime.Witness(n, f); got != want || e != why {
		t.Errorf("Witness(%x, %x) = %d %d, want %d %d", n, f, got, e, want, why)
	}
}

// Pr1: Witness, of all small naturals.
func TestWitnessSmall(t *testing.T) {
	for n := range 260 {
		for f := range n + 3 {
			checkWitness(t, nat.Of(n), nat.Of(f))
		}
	}
}

// Pr1: the least witness from 2 to 100.
func TestWitnessLeast(t *testing.T) {
	for _, c := range []struct{ n, f, a int }{
		{3, 2, 2}, {7, 3, 2}, {11, 5, 2}, {23, 11, 2}, {683, 31, 3}, {9719, 113, 3}, {121369, 389, 3}, {31, 6, 3}, {91, 90, 3},
		{99, 14, 98}, {565, 94, 98}, {775, 86, 99}, {845, 844, 99}, {2329, 388, 100}, {2329, 2328, 100},
	} {
		if a, e := prime.Witness(nat.Of(c.n), nat.Of(c.f)); a != c.a || e != api.OK {
			t.Errorf("Witness(%d, %d) = %d %d, want %d", c.n, c.f, a, e, c.a)
		}
		for a := range c.a {
			if prime.Step(nat.Of(c.n), nat.Of(c.f), a) {
				t.Errorf("%d is less than the least witness %d of %d by %d", a, c.a, c.n, c.f)
			}
		}
	}
	for _, l := range longChains(t) {
		for k := range len(l) - 1 {
			checkWitness(t, l[k+1].N, l[k].N)
		}
	}
}

// Pr1: there is no witness, or none up to 100; beside ErrNone stands 0.
func TestWitnessNone(t *testing.T) {
	for _, c := range []struct{ n, f int }{
		{0, 0}, {0, 1}, {1, 0}, {1, 1}, {2, 1}, {4, 3}, {11, 0}, {11, 1}, {11, 2}, {11, 11}, {21, 5}, {31, 5}, {15, 7}, {13741, 229}, {561, 7}, {1966023127 + 2, 65521},
	} {
		if a, e := prime.Witness(nat.Of(c.n), nat.Of(c.f)); a != 0 || e != api.ErrNone {
			t.Errorf("Witness(%d, %d) = %d %d, want ErrNone", c.n, c.f, a, e)
		}
	}
	for _, c := range []struct{ n, f, a int }{{2431, 54, 101}, {2431, 810, 101}, {1501, 75, 102}} {
		if !prime.Step(nat.Of(c.n), nat.Of(c.f), c.a) {
			t.Errorf("Step(%d, %d, %d)", c.n, c.f, c.a)
		}
		if a, e := prime.Witness(nat.Of(c.n), nat.Of(c.f)); a != 0 || e != api.ErrNone {
			t.Errorf("Witness(%d, %d) = %d %d: the least one is %d, above 100", c.n, c.f, a, e, c.a)
		}
	}
	for _, n := range []api.Nat{zero, one, {0, 0, 0, 1 << 63}, {ones - 1, ones, ones, ones}, all, {ones - 188, ones, ones, ones}} {
		for _, f := range []api.Nat{zero, one, n, all, {ones, ones}} {
			if a, e := prime.Witness(n, f); a != 0 || e != api.ErrNone {
				t.Errorf("Witness(%x, %x) = %d %d, want ErrNone", n, f, a, e)
			}
		}
	}
}

// Pr2: what a prime of 8 bits or fewer shows to be one is one; by all witnesses up to 100, and by the greatest.
func TestShownArePrimes(t *testing.T) {
	is := sieve()
	for f := range 256 {
		if !is[f] {
			continue
		}
		for n := f + 1; n < f*f; n += f {
			shown := 0
			for a := 2; a <= lastTried; a++ {
				if prime.Step(nat.Of(n), nat.Of(f), a) {
					shown++
				}
			}
			if prime.Step(nat.Of(n), nat.Of(f), lastWitness) {
				shown++
			}
			if shown > 0 && !is[n] {
				t.Errorf("%d is shown to be a prime by %d", n, f)
			}
			if shown == 0 && is[n] && n > 100 {
				t.Errorf("%d, a prime, is not shown to be one by %d", n, f)
			}
		}
	}
}

// Pr2: numbers that look like primes to many bases are not shown to be ones, whichever prime is taken.
func TestLooksLikePrime(t *testing.T) {
	for _, digits := range []string{"341", "561", "645", "1105", "1387", "1729", "1905", "2047", "2465", "2821", "6601", "8911", "10585", "11305", "13741", "13981", "15841", "29341", "31609", "63973", "101101", "1373653",
		"25326001", "3215031751", "2152302898747", "3474749660383", "341550071728321", "3825123056546413051", "318665857834031151167461", "3317044064679887385961981"} {
		n := decimal(t, digits)
		for _, f := range primeDivisors(new(big.Int).Sub(toBig(n), big.NewInt(1))) {
			for a := 2; a <= lastTried; a++ {
				if prime.Step(n, fromBig(f), a) {
					t.Errorf("%d shows that %s is a prime, if %s is", a, digits, f)
				}
			}
			if a, e := prime.Witness(n, fromBig(f)); a != 0 || e != api.ErrNone {
				t.Errorf("Witness(%s, %s) = %d %d", digits, f, a, e)
			}
			if e := prime.Check([]api.Link{{N: fromBig(f)}, {N: n, A: 2}}); e != api.ErrBad {
				t.Errorf("%s and %s are a chain", f, digits)
			}
		}
	}
}

// primeDivisors are those of a number that are below 2^16, and what is left, if it is a prime.
func primeDivisors(n *big.Int) []*big.Int {
	var list []*big.Int
	rest := new(big.Int).Set(n)
	for d := int64(2); d < 1<<16; d++ {
		bd := big.NewInt(d)
		if new(big.Int).Mod(rest, bd).Sign() != 0 {
			continue
		}
		list = append(list, bd)
		for new(big.Int).Mod(rest, bd).Sign() == 0 {
			rest.Quo(rest, bd)
		}
	}
	if rest.ProbablyPrime(20) {
		list = append(list, rest)
	}
	return list
}

// Pr2: of chains of three links, drawn until there are enough, each natural is a prime; and what is none has no witness.
func TestDrawnChains(t *testing.T) {
	is := sieve()
	d := newDrawer()
	chains := 0
	for chains < 60 {
		f := 1<<15 + d.r.IntN(1<<15)
		if !is[f] {
			continue
		}
		l := []api.Link{{N: nat.Of(f)}}
		for len(l) < 3 {
			last := toBig(l[len(l)-1].N)
			k := new(big.Int).Mod(toBig(d.draw(64)), last)
			n := k.Mul(k, last)
			n.Add(n, big.NewInt(1))
			a, e := prime.Witness(fromBig(n), fromBig(last))
			// Below 2^64 ProbablyPrime makes no mistake.
			if got := e == api.OK; got != n.ProbablyPrime(0) {
				t.Fatalf("Witness(%s, %s) = %d %d", n, last, a, e)
			}
			if e == api.OK {
				l = append(l, api.Link{N: fromBig(n), A: a})
			}
		}
		if e := prime.Check(l); e != api.OK {
			t.Errorf("Check(%x) = %d", l, e)
		}
		if n, _ := nat.Int(l[1].N); !undivided(n) {
			t.Errorf("%d has a divisor", n)
		}
		chains++
	}
}

// undivided tells whether nothing goes into n but 1 and it, by trying all.
func undivided(n int) bool {
	for d := 2; d*d <= n; d++ {
		if n%d == 0 {
			return false
		}
	}
	return n > 1
}

// R4: the same is told again, also when many ask at once.
func TestSameAgain(t *testing.T) {
	l := groupChains(t)[2]
	for k := range 8 {
		t.Run(string(rune('a'+k)), func(t *testing.T) {
			t.Parallel()
			for range 5 {
				if e := prime.Check(l); e != api.OK {
					t.Errorf("Check = %d", e)
				}
				if a, e := prime.Witness(l[4].N, l[3].N); a != 2 || e != api.OK {
					t.Errorf("Witness = %d %d", a, e)
				}
			}
		})
	}
}

// natOf is a natural of bytes, cut or filled.
func natOf(s []byte) api.Nat {
	var a api.Nat
	for k, x := range s[:min(len(s), 32)] {
		a[k/8] |= uint64(x) << (k % 8 * 8)
	}
	return a
}

// FuzzPrime looks for naturals, and a witness, at which a promise is broken.
func FuzzPrime(f *testing.F) {
	f.Add([]byte{5}, []byte{2}, 2)
	f.Add([]byte{31}, []byte{22}, 3)
	f.Add([]byte{}, []byte{1}, 0)
	f.Fuzz(func(t *testing.T, low, high []byte, a int) {
		factor, k := natOf(low), natOf(high)
		checkStep(t, k, factor, a)
		checkWitness(t, k, factor)
		product := new(big.Int).Mul(toBig(factor), toBig(k))
		product.Add(product, big.NewInt(1))
		if product.BitLen() > api.MaxBits {
			return
		}
		n := fromBig(product)
		checkStep(t, n, factor, a)
		checkWitness(t, n, factor)
		l := []api.Link{{N: factor}, {N: n, A: a}}
		if prime.Check(l) == api.OK && !(prime.Small(int(factor[0])) && product.ProbablyPrime(0)) {
			t.Errorf("Check(%x) = OK", l)
		}
	})
}
