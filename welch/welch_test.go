package welch_test

import (
	"math/big"
	"math/rand/v2"
	"slices"
	"testing"

	"sacristy/api"
	"sacristy/group"
	"sacristy/nat"
	"sacristy/share"
	"sacristy/welch"
)

const ones = 1<<64 - 1

var (
	zero = api.Nat{}
	one  = api.Nat{1}
	all  = api.Nat{ones, ones, ones, ones}
)

// toBig is what the limbs mean, told without the packages that are tested.
func toBig(a api.Nat) *big.Int {
	sum := new(big.Int)
	for k := api.Limbs - 1; k >= 0; k-- {
		sum.Lsh(sum, api.LimbBits)
		sum.Add(sum, new(big.Int).SetUint64(a[k]))
	}
	return sum
}

// fromBig is a number below 2^256, as limbs.
func fromBig(n *big.Int) api.Nat {
	rest := new(big.Int).Set(n)
	var a api.Nat
	for k := range a {
		a[k] = new(big.Int).And(rest, new(big.Int).SetUint64(ones)).Uint64()
		rest.Rsh(rest, api.LimbBits)
	}
	return a
}

// shows tells whether a is layer 4's witness that n is a prime, if f is.
func shows(n, f *big.Int, a int) bool {
	one := big.NewInt(1)
	less := new(big.Int).Sub(n, one)
	often := new(big.Int).Quo(less, f)
	witness := big.NewInt(int64(a))
	if new(big.Int).Exp(witness, less, n).Cmp(one) != 0 {
		return false
	}
	root := new(big.Int).Exp(witness, often, n)
	return new(big.Int).GCD(nil, nil, n, root.Sub(root, one)).Cmp(one) == 0
}

// nextLink is the link of a prime from about so many bits on that f makes; it has fewer than twice as many bits as f.
func nextLink(t testing.TB, f api.Nat, bits int) api.Link {
	t.Helper()
	bf := toBig(f)
	k := new(big.Int).Lsh(big.NewInt(1), uint(bits-1))
	k.Quo(k, bf)
	for range 1 << 14 {
		n := new(big.Int).Mul(k, bf)
		k.Add(k, big.NewInt(1))
		n.Add(n, big.NewInt(1))
		if n.BitLen() < bits || n.Bit(0) == 0 {
			continue
		}
		if n.BitLen() > api.MaxBits || n.Cmp(new(big.Int).Mul(bf, bf)) >= 0 {
			break
		}
		for a := 2; n.ProbablyPrime(0) && a < 100; a++ {
			if shows(n, bf, a) {
				return api.Link{N: fromBig(n), A: a}
			}
		}
	}
	t.Fatalf("%x makes no prime of %d bits", f, bits)
	return api.Link{}
}

// groupOf is a group of a chain from a small prime on, a link for each of bits.
func groupOf(t testing.TB, first int, bits ...int) *group.Group {
	t.Helper()
	l := []api.Link{{N: nat.Of(first)}}
	for _, b := range bits {
		l = append(l, nextLink(t, l[len(l)-1].N, b))
	}
	p, q := toBig(l[len(l)-1].N), toBig(l[len(l)-2].N)
	often := new(big.Int).Sub(p, big.NewInt(1))
	often.Quo(often, q)
	for n := int64(2); n < 100; n++ {
		spawner := new(big.Int).Exp(big.NewInt(n), often, p)
		if g, e := group.New(api.Params{Chain: l, G: fromBig(spawner)}); e == api.OK {
			return g
		}
	}
	t.Fatalf("nothing spawns a subgroup by %x", l)
	return nil
}

// given is a group whose parameters are right.
func given(t testing.TB, p api.Params) *group.Group {
	t.Helper()
	g, e := group.New(p)
	if e != api.OK {
		t.Fatalf("New(%x) = %d", p, e)
	}
	return g
}

// least is the group whose Q is the least that may be: all of its numbers can be tried.
func least(t testing.TB) *group.Group {
	t.Helper()
	return groupOf(t, 521, 11)
}

// manyGroups are groups whose Q has one limb to four, from the least to one of as many bits as there may be.
func manyGroups(t testing.TB) []*group.Group {
	t.Helper()
	return []*group.Group{
		least(t), given(t, group.Least()), given(t, group.Other()), given(t, group.Great()),
		groupOf(t, 65521, 17),
		groupOf(t, 65521, 31, 50, 64, 74),
		groupOf(t, 65521, 31, 50, 65, 75),
		groupOf(t, 32771, 30, 58, 100, 192, 256),
		groupOf(t, 65521, 31, 60, 110, 200, 246, 256),
		groupOf(t, 65521, 31, 60, 110, 200, 250, 256),
		greatest(t),
	}
}

// greatest is a group whose Q has 255 bits, as many as it may have: P is twice Q, and 1.
func greatest(t testing.TB) *group.Group {
	t.Helper()
	digits := []string{"65521", "1074282317", "576460780807958477", "649037107316878326410637878470751",
		"803469022129495137770981108568449884878255012103186407123779",
		"57896044618595922064977028148842967554791797017574897235716261396257767476009",
		"115792089237191844129954056297685935109583594035149794471432522792515534952019"}
	p := api.Params{G: nat.Of(4)}
	for k := range digits {
		n, _ := new(big.Int).SetString(digits[k], 10)
		p.Chain = append(p.Chain, api.Link{N: fromBig(n), A: 2 * min(k, 1)})
	}
	return given(t, p)
}

// less is Q without so many.
func less(g *group.Group, n int) api.Nat {
	rest, _ := nat.Sub(g.Q(), nat.Of(n))
	return rest
}

// edges are naturals about 0, Q, what goes over limbs, and the greatest there are.
func edges(g *group.Group) []api.Nat {
	q := g.Q()
	list := []api.Nat{zero, one, nat.Of(2), nat.Of(3), less(g, 2), less(g, 1), q, nat.Down(q, 1),
		{ones}, {0, 1}, {ones, ones}, {0, 0, 1}, {ones, ones, ones}, {0, 0, 0, 1}, {0, 0, 0, 1 << 63}, all, {ones - 1, ones, ones, ones}}
	last := new(big.Int).Quo(toBig(all), toBig(q))
	for _, often := range []*big.Int{big.NewInt(1), big.NewInt(2), last} {
		for d := int64(-1); d <= 1; d++ {
			n := new(big.Int).Mul(toBig(q), often)
			if n.Add(n, big.NewInt(d)); n.BitLen() <= api.MaxBits {
				list = append(list, fromBig(n))
			}
		}
	}
	return list
}

// drawer draws naturals of all lengths, one in four of them below Q.
func drawer(g *group.Group, r *rand.Rand) func() api.Nat {
	return func() api.Nat {
		a := api.Nat{r.Uint64(), r.Uint64(), r.Uint64(), r.Uint64()}
		if r.IntN(4) == 0 {
			return fromBig(new(big.Int).Mod(toBig(a), toBig(g.Q())))
		}
		return nat.Down(a, r.IntN(api.MaxBits))
	}
}

// of are small numbers, as a polynomial or places.
func of(l ...int) []api.Nat {
	var list []api.Nat
	for _, n := range l {
		list = append(list, nat.Of(n))
	}
	return list
}

// bigs are the numbers of a list, by Q.
func bigs(g *group.Group, l []api.Nat) []*big.Int {
	var list []*big.Int
	for _, n := range l {
		list = append(list, new(big.Int).Mod(toBig(n), toBig(g.Q())))
	}
	return list
}

// want is the polynomial of coefficients without a bound, by the chapter's words.
func want(g *group.Group, l []*big.Int) []api.Nat {
	var list []api.Nat
	for k, n := range l {
		rest := new(big.Int).Mod(n, toBig(g.Q()))
		if rest.Sign() == 0 {
			continue
		}
		for len(list) < k {
			list = append(list, zero)
		}
		list = append(list, fromBig(rest))
	}
	return list
}

// wantEval is the sum of each coefficient times a place to its number, told power by power.
func wantEval(g *group.Group, f []api.Nat, x api.Nat) api.Nat {
	sum := new(big.Int)
	for k, n := range f {
		raised := new(big.Int).Exp(toBig(x), big.NewInt(int64(k)), toBig(g.Q()))
		sum.Add(sum, raised.Mul(raised, toBig(n)))
	}
	return fromBig(sum.Mod(sum, toBig(g.Q())))
}

// liesOn tells whether a share is one of a polynomial: Y is what it is at I, and so below Q.
func liesOn(g *group.Group, f []api.Nat, s api.Share) bool {
	return s.Y == wantEval(g, f, nat.Of(s.I))
}

// wantWeights are the coefficients of the polynomials that are 1 at one place and 0 at the others, by the way of Lagrange.
func wantWeights(g *group.Group, xs []int) [][]api.Nat {
	q := toBig(g.Q())
	list := make([][]api.Nat, len(xs))
	for k := range xs {
		row := []*big.Int{big.NewInt(1)}
		for j := range xs {
			if j != k {
				row = timesLine(row, int64(xs[j]), new(big.Int).ModInverse(big.NewInt(int64(xs[k]-xs[j])), q), q)
			}
		}
		for j := range xs {
			list[j] = append(list[j], fromBig(row[j]))
		}
	}
	return list
}

// timesLine is a polynomial, times x less a root, times a factor.
func timesLine(f []*big.Int, root int64, factor, q *big.Int) []*big.Int {
	list := make([]*big.Int, len(f)+1)
	for k := range list {
		list[k] = new(big.Int)
		if k > 0 {
			list[k].Add(list[k], f[k-1])
		}
		if k < len(f) {
			list[k].Sub(list[k], new(big.Int).Mul(f[k], big.NewInt(root)))
		}
		list[k].Mul(list[k], factor).Mod(list[k], q)
	}
	return list
}

// wantThrough is the polynomial through shares that are apart.
func wantThrough(g *group.Group, l []api.Share) []api.Nat {
	var xs []int
	for _, s := range l {
		xs = append(xs, s.I)
	}
	sums := make([]*big.Int, len(l))
	for j, row := range wantWeights(g, xs) {
		sums[j] = new(big.Int)
		for k := range row {
			sums[j].Add(sums[j], new(big.Int).Mul(toBig(row[k]), toBig(l[k].Y)))
		}
	}
	return want(g, sums)
}

// twice tells whether a number is there twice.
func twice(l []int) bool {
	seen := map[int]bool{}
	for _, n := range l {
		seen[n] = true
	}
	return len(seen) < len(l)
}

// deal are all shares of a polynomial.
func deal(g *group.Group, f []api.Nat) []api.Share {
	var l []api.Share
	for i := 1; i <= api.MaxServers; i++ {
		l = append(l, api.Share{I: i, Y: wantEval(g, f, nat.Of(i))})
	}
	return l
}

// polyDrawer draws polynomials of so many coefficients, of which some are 0, or 0 by Q.
func polyDrawer(g *group.Group, r *rand.Rand) func(count int) []api.Nat {
	draw := drawer(g, r)
	return func(count int) []api.Nat {
		list := make([]api.Nat, count)
		for k := range list {
			switch r.IntN(8) {
			case 0:
			case 1:
				list[k] = g.Q()
			default:
				list[k] = draw()
			}
		}
		return list
	}
}

// some are those of a list whose bit is set in which.
func some[T any](l []T, which int) []T {
	var list []T
	for k := range l {
		if which>>k&1 == 1 {
			list = append(list, l[k])
		}
	}
	return list
}

// mixed is a list in another order.
func mixed[T any](r *rand.Rand, l []T) []T {
	list := slices.Clone(l)
	r.Shuffle(len(list), func(a, b int) { list[a], list[b] = list[b], list[a] })
	return list
}

// wantLies is how many may be wrong, told by numbers without a bound.
func wantLies(degree, shares int) int {
	if degree < 0 || shares > 7 {
		return 0
	}
	half := new(big.Int).Sub(big.NewInt(int64(shares)), big.NewInt(int64(degree)))
	if half.Sub(half, big.NewInt(1)).Sign() < 0 {
		return 0
	}
	return int(half.Rsh(half, 1).Int64())
}

// wantDecode is what the chapter says of shares: the errors in its order, and the polynomial that is found by going through all choices of as many shares as tell one.
func wantDecode(g *group.Group, degree int, l []api.Share) ([]api.Nat, []int, api.Errno) {
	var is []int
	for _, s := range l {
		if s.I < 1 || s.I > 7 {
			return nil, nil, api.ErrArg
		}
		is = append(is, s.I)
	}
	if degree < 0 || degree > 6 || twice(is) {
		return nil, nil, api.ErrArg
	}
	if len(l) < degree+1 {
		return nil, nil, api.ErrNone
	}
	for which := range 1 << len(l) {
		chosen := some(l, which)
		if len(chosen) != degree+1 {
			continue
		}
		f := wantThrough(g, chosen)
		if wrong := wantWrong(g, f, l); len(wrong) <= wantLies(degree, len(l)) {
			return f, wrong, api.OK
		}
	}
	return nil, nil, api.ErrBad
}

// wantWrong are the I of the shares that are none of a polynomial, rising.
func wantWrong(g *group.Group, f []api.Nat, l []api.Share) []int {
	var wrong []int
	for i := 1; i <= 7; i++ {
		if slices.ContainsFunc(l, func(s api.Share) bool { return s.I == i && !liesOn(g, f, s) }) {
			wrong = append(wrong, i)
		}
	}
	return wrong
}

// checkDecode looks at Decode, and whether it leaves the shares as they were.
func checkDecode(t *testing.T, g *group.Group, degree int, l []api.Share) api.Errno {
	t.Helper()
	was := slices.Clone(l)
	f, wrong, e := welch.Decode(g, degree, l)
	if h, bad, no := wantDecode(g, degree, l); !slices.Equal(f, h) || !slices.Equal(wrong, bad) || e != no {
		t.Errorf("Decode(%d, %x) by %x = %x, %d, %d, not %x, %d, %d", degree, l, g.Q(), f, wrong, e, h, bad, no)
	}
	if !slices.Equal(l, was) {
		t.Errorf("%x has become %x", was, l)
	}
	return e
}

// rank is how many rows are left, if all that are sums of others are taken out; without a division, so that it is not the way of what is tested.
func rank(g *group.Group, rows [][]api.Nat) int {
	var table [][]*big.Int
	for _, row := range rows {
		table = append(table, bigs(g, row))
	}
	count := 0
	for column := range len(rows[0]) {
		at := slices.IndexFunc(table, func(row []*big.Int) bool { return row[column].Sign() != 0 })
		if at < 0 {
			continue
		}
		lead := table[at]
		table = slices.Delete(table, at, at+1)
		count++
		for _, row := range table {
			off, on := new(big.Int).Set(row[column]), lead[column]
			for k := range row {
				row[k].Mul(row[k], on)
				row[k].Sub(row[k], new(big.Int).Mul(lead[k], off))
				row[k].Mod(row[k], toBig(g.Q()))
			}
		}
	}
	return count
}

// beside are rows, each with what is on its right.
func beside(rows [][]api.Nat, right []api.Nat) [][]api.Nat {
	var list [][]api.Nat
	for k := range rows {
		list = append(list, append(slices.Clone(rows[k]), right[k]))
	}
	return list
}

// wantSolve tells the error by the chapter's words: there is a solution just if what is on the right hangs on no more than the rows do.
func wantSolve(g *group.Group, rows [][]api.Nat, right []api.Nat) api.Errno {
	if len(rows) == 0 || len(rows) > 16 || len(right) != len(rows) {
		return api.ErrArg
	}
	for _, row := range rows {
		if len(row) < 1 || len(row) > 16 || len(row) != len(rows[0]) {
			return api.ErrArg
		}
	}
	if rank(g, beside(rows, right)) > rank(g, rows) {
		return api.ErrNone
	}
	return api.OK
}

// solves tells whether a list is a solution.
func solves(g *group.Group, rows [][]api.Nat, right, x []api.Nat) bool {
	if len(x) != len(rows[0]) {
		return false
	}
	if slices.ContainsFunc(x, func(n api.Nat) bool { return toBig(n).Cmp(toBig(g.Q())) >= 0 }) {
		return false
	}
	for k, row := range rows {
		if times(g, row, x) != fromBig(bigs(g, right[k:k+1])[0]) {
			return false
		}
	}
	return true
}

// times is the sum of the products of two lists, by Q.
func times(g *group.Group, a, b []api.Nat) api.Nat {
	sum := new(big.Int)
	for k := range a {
		sum.Add(sum, new(big.Int).Mul(toBig(a[k]), toBig(b[k])))
	}
	return fromBig(sum.Mod(sum, toBig(g.Q())))
}

// copyOf are rows in other memory.
func copyOf(rows [][]api.Nat) [][]api.Nat {
	var list [][]api.Nat
	for _, row := range rows {
		list = append(list, slices.Clone(row))
	}
	return list
}

// sameRows tells whether rows are the same.
func sameRows(a, b [][]api.Nat) bool {
	return slices.EqualFunc(a, b, slices.Equal[[]api.Nat])
}

// checkSolve looks at Solve, whether it tells the same of the same, and whether it leaves the equations as they were.
func checkSolve(t *testing.T, g *group.Group, rows [][]api.Nat, right []api.Nat) api.Errno {
	t.Helper()
	wasRows, wasRight := copyOf(rows), slices.Clone(right)
	x, e := welch.Solve(g, rows, right)
	if no := wantSolve(g, rows, right); e != no || e != api.OK && len(x) != 0 {
		t.Errorf("Solve(%x, %x) by %x = %x, %d, not %d", rows, right, g.Q(), x, e, no)
	} else if e == api.OK && !solves(g, rows, right, x) {
		t.Errorf("Solve(%x, %x) by %x = %x", rows, right, g.Q(), x)
	}
	if again, no := welch.Solve(g, wasRows, wasRight); !slices.Equal(again, x) || no != e {
		t.Errorf("Solve(%x, %x) by %x = %x, %d, and then %x, %d", rows, right, g.Q(), x, e, again, no)
	}
	if !sameRows(rows, wasRows) || !slices.Equal(right, wasRight) {
		t.Errorf("%x, %x have become %x, %x", wasRows, wasRight, rows, right)
	}
	return e
}

// drawRows are so many rows of so many numbers.
func drawRows(draw func(count int) []api.Nat, count, columns int) [][]api.Nat {
	var rows [][]api.Nat
	for range count {
		rows = append(rows, draw(columns))
	}
	return rows
}

// hangRows are so many rows that are sums of the given ones, each of them a drawn number of times.
func hangRows(g *group.Group, draw func(count int) []api.Nat, given [][]api.Nat, count int) [][]api.Nat {
	var rows [][]api.Nat
	for range count {
		often := draw(len(given))
		row := make([]api.Nat, len(given[0]))
		for column := range row {
			var numbers []api.Nat
			for k := range given {
				numbers = append(numbers, given[k][column])
			}
			row[column] = times(g, often, numbers)
		}
		rows = append(rows, row)
	}
	return rows
}

// rightOf is what is on the right of rows, if the solution is x.
func rightOf(g *group.Group, rows [][]api.Nat, x []api.Nat) []api.Nat {
	var right []api.Nat
	for _, row := range rows {
		right = append(right, times(g, row, x))
	}
	return right
}

// wrong are shares of which those whose bit is set in which have another Y, that is below Q too.
func wrong(g *group.Group, r *rand.Rand, l []api.Share, which int) []api.Share {
	list := slices.Clone(l)
	for k := range list {
		if which>>k&1 == 1 {
			more := new(big.Int).Mod(toBig(drawer(g, r)()), toBig(less(g, 1)))
			more.Add(more, toBig(list[k].Y)).Add(more, big.NewInt(1))
			list[k].Y = fromBig(more.Mod(more, toBig(g.Q())))
		}
	}
	return list
}

// parted are rows without their last numbers, and these.
func parted(full [][]api.Nat) ([][]api.Nat, []api.Nat) {
	var rows [][]api.Nat
	var right []api.Nat
	for _, row := range full {
		rows = append(rows, slices.Clone(row[:len(row)-1]))
		right = append(right, row[len(row)-1])
	}
	return rows, right
}

// numbersOf are the I of shares, rising.
func numbersOf(l []api.Share) []int {
	var list []int
	for _, s := range l {
		list = append(list, s.I)
	}
	slices.Sort(list)
	return list
}

// above is what a number below Q is by Q, but not below it; there is room for that, as Q has at most 255 bits.
func above(g *group.Group, y api.Nat) api.Nat {
	more, _ := nat.Add(y, g.Q())
	return more
}

// checkAgainst looks at Decode with shares of a polynomial some of which are others: as many as may be, or else there is none.
func checkAgainst(t *testing.T, g *group.Group, degree int, f []api.Nat, l []api.Share) {
	t.Helper()
	if bad := wantWrong(g, f, l); len(bad) <= wantLies(degree, len(l)) {
		if got, told, e := welch.Decode(g, degree, l); !slices.Equal(got, want(g, bigs(g, f))) || !slices.Equal(told, bad) || e != api.OK {
			t.Errorf("Decode(%d, %x) by %x = %x, %d, %d, not %x, %d", degree, l, g.Q(), got, told, e, f, bad)
		}
		return
	}
	checkDecode(t, g, degree, l)
}

// We1, We2: the chapter's example, and what is known by heart.
func TestExamples(t *testing.T) {
	for _, g := range manyGroups(t) {
		for k := range 4 {
			l := deal(g, of(5, 2))[:4]
			l[k].Y = nat.Of(100)
			if f, bad, e := welch.Decode(g, 1, l); !slices.Equal(f, of(5, 2)) || !slices.Equal(bad, []int{k + 1}) || e != api.OK {
				t.Errorf("5 + 2 x with a wrong share at %d by %x: %x, %d, %d", k+1, g.Q(), f, bad, e)
			}
		}
		if x, e := welch.Solve(g, [][]api.Nat{of(1, 1), of(1, 2)}, of(3, 5)); !slices.Equal(x, of(1, 2)) || e != api.OK {
			t.Errorf("1 and 2 by %x: %x, %d", g.Q(), x, e)
		}
		if x, e := welch.Solve(g, [][]api.Nat{of(0, 2), of(3, 0)}, of(4, 9)); !slices.Equal(x, of(3, 2)) || e != api.OK {
			t.Errorf("3 and 2 by %x: %x, %d", g.Q(), x, e)
		}
		if x, e := welch.Solve(g, [][]api.Nat{of(1), of(1)}, of(3, 4)); len(x) != 0 || e != api.ErrNone {
			t.Errorf("what is 3 and 4 by %x: %x, %d", g.Q(), x, e)
		}
	}
}

// We1: drawn equations of all numbers of rows and columns, with a solution and, where they may, without.
func TestSolve(t *testing.T) {
	r := rand.New(rand.NewPCG(15, 1))
	for _, g := range []*group.Group{least(t), given(t, group.Great()), greatest(t)} {
		draw := polyDrawer(g, r)
		for count := 1; count <= 16; count++ {
			for columns := 1; columns <= 16; columns++ {
				rows := drawRows(draw, count, columns)
				if e := checkSolve(t, g, rows, rightOf(g, rows, draw(columns))); e != api.OK {
					t.Errorf("%d rows of %d: %d", count, columns, e)
				}
				checkSolve(t, g, rows, draw(count))
			}
		}
	}
}

// We1: rows that hang on each other: there is a solution as long as what is on the right hangs likewise, and none as soon as one number there does not.
func TestSolveHanging(t *testing.T) {
	r := rand.New(rand.NewPCG(15, 2))
	for _, g := range manyGroups(t) {
		draw := polyDrawer(g, r)
		for range 40 {
			count, columns, free := 1+r.IntN(15), 1+r.IntN(16), 1+r.IntN(6)
			rows := hangRows(g, draw, drawRows(draw, free, columns), count)
			full := beside(rows, rightOf(g, rows, draw(columns)))
			at := r.IntN(count + 1)
			full = slices.Insert(full, at, hangRows(g, draw, full, 1)...)
			rows, right := parted(full)
			if e := checkSolve(t, g, rows, right); e != api.OK {
				t.Errorf("%x, %x by %x: %d", rows, right, g.Q(), e)
			}
			right[at], _ = nat.Add(right[at], one)
			if e := checkSolve(t, g, rows, right); e != api.ErrNone {
				t.Errorf("%x, %x by %x: %d", rows, right, g.Q(), e)
			}
		}
	}
}

// We1: numbers at the edges count as what they are by Q, on both sides.
func TestSolveEdges(t *testing.T) {
	r := rand.New(rand.NewPCG(15, 3))
	for _, g := range manyGroups(t) {
		list := edges(g)
		for _, a := range list {
			for _, b := range list {
				checkSolve(t, g, [][]api.Nat{{a}}, []api.Nat{b})
				checkSolve(t, g, [][]api.Nat{{a, b}}, []api.Nat{a})
			}
		}
		pick := func() api.Nat { return list[r.IntN(len(list))] }
		for range 300 {
			checkSolve(t, g, [][]api.Nat{{pick(), pick()}, {pick(), pick()}}, []api.Nat{pick(), pick()})
			checkSolve(t, g, [][]api.Nat{{pick()}, {pick()}, {pick()}}, []api.Nat{pick(), pick(), pick()})
		}
	}
}

// We1: what is 0 by Q is no number to go by, wherever it stands, and is nothing on the right.
func TestSolveZeros(t *testing.T) {
	for _, g := range manyGroups(t) {
		nothing := []api.Nat{zero, g.Q(), fromBig(new(big.Int).Mul(toBig(g.Q()), big.NewInt(2)))}
		for count := 1; count <= 16; count++ {
			for columns := 1; columns <= 16; columns += 5 {
				rows, right := make([][]api.Nat, count), make([]api.Nat, count)
				for k := range rows {
					right[k] = nothing[k%3]
					for column := range columns {
						rows[k] = append(rows[k], nothing[(k+column)%3])
					}
				}
				if e := checkSolve(t, g, rows, right); e != api.OK {
					t.Errorf("0 of %x by %x: %d", rows, g.Q(), e)
				}
				right[count-1] = one
				if e := checkSolve(t, g, rows, right); e != api.ErrNone {
					t.Errorf("1 of %x by %x: %d", rows, g.Q(), e)
				}
				rows[count-1][columns-1] = less(g, 1)
				if e := checkSolve(t, g, rows, right); e != api.OK {
					t.Errorf("1 of %x by %x: %d", rows, g.Q(), e)
				}
			}
		}
	}
}

// We1: where each row has a number that is alone in its column, in any order, there is just one solution.
func TestSolveOrders(t *testing.T) {
	r := rand.New(rand.NewPCG(15, 4))
	for _, g := range manyGroups(t) {
		for count := 1; count <= 16; count++ {
			var x []api.Nat
			var places []int
			for k := range count {
				x = append(x, fromBig(bigs(g, []api.Nat{drawer(g, r)()})[0]))
				places = append(places, k)
			}
			rows := make([][]api.Nat, count)
			for k, column := range mixed(r, places) {
				rows[k] = make([]api.Nat, count)
				rows[k][column] = less(g, 1+r.IntN(500))
			}
			if got, e := welch.Solve(g, rows, rightOf(g, rows, x)); !slices.Equal(got, x) || e != api.OK {
				t.Errorf("%x by %x = %x, %d, not %x", rows, g.Q(), got, e, x)
			}
		}
	}
}

// We1: all equations of one row and one column of a small field.
func TestSolveAll(t *testing.T) {
	g := least(t)
	const q = 521
	for a := range q {
		for b := 0; b < q; b += 1 + a%7 {
			x, e := welch.Solve(g, [][]api.Nat{of(a)}, of(b))
			if a == 0 && b != 0 {
				if len(x) != 0 || e != api.ErrNone {
					t.Errorf("0 that is %d: %x, %d", b, x, e)
				}
				continue
			}
			if len(x) != 1 || e != api.OK || x[0][0] >= q || x[0] != nat.Of(int(x[0][0])) || int(x[0][0])*a%q != b {
				t.Errorf("%d times what is %d: %x, %d", a, b, x, e)
			}
		}
	}
}

// We1: too few and too many rows, columns and numbers on the right are refused, even where there is no solution.
func TestSolveRefused(t *testing.T) {
	for _, g := range []*group.Group{least(t), given(t, group.Great())} {
		for _, count := range []int{0, 1, 2, 15, 16, 17, 18, 33, 256 + 1} {
			for _, columns := range []int{0, 1, 2, 15, 16, 17, 18, 33, 256 + 1} {
				rows := slices.Repeat([][]api.Nat{slices.Repeat(of(1), columns)}, count)
				for _, more := range []int{-16, -2, -1, 0, 1, 2, 16} {
					if count+more < 0 {
						continue
					}
					for _, number := range []api.Nat{zero, one, g.Q()} {
						right := slices.Repeat([]api.Nat{number}, count+more)
						checkSolve(t, g, rows, right)
						if more == 0 && count > 1 {
							right[count-1] = nat.Of(7)
							checkSolve(t, g, rows, right)
						}
					}
				}
			}
		}
	}
}

// We1: one row that is longer or shorter than the others, wherever it stands.
func TestSolveRagged(t *testing.T) {
	g := given(t, group.Great())
	for count := 2; count <= 16; count++ {
		for _, columns := range []int{1, 2, 7, 15, 16} {
			for at := range count {
				for _, other := range []int{0, 1, columns - 1, columns + 1, 16, 17, 1 << 9} {
					if other == columns {
						continue
					}
					rows := slices.Repeat([][]api.Nat{slices.Repeat(of(1), columns)}, count)
					rows[at] = slices.Repeat(of(1), other)
					if x, e := welch.Solve(g, rows, slices.Repeat(of(1), count)); len(x) != 0 || e != api.ErrArg {
						t.Errorf("%d of %d rows of %d with one of %d: %x, %d", at, count, columns, other, x, e)
					}
				}
			}
		}
	}
	for _, rows := range [][][]api.Nat{nil, {}, {nil}, {{}}, {nil, nil}, {{}, nil}, {of(1), nil}, {nil, of(1)}} {
		for _, right := range [][]api.Nat{nil, {}, of(0), of(0, 0), of(1, 1)} {
			if x, e := welch.Solve(g, rows, right); len(x) != 0 || e != api.ErrArg {
				t.Errorf("Solve(%x, %x) = %x, %d", rows, right, x, e)
			}
		}
	}
}

// We2: how many may be wrong, of all degrees and shares that are near, and far.
func TestLies(t *testing.T) {
	numbers := []int{api.MinInt, api.MinInt + 1, -1 << 32, 1<<31 - 1, 1 << 31, 1 << 32, 1<<32 + 7, api.MaxInt - 7, api.MaxInt - 1, api.MaxInt}
	for n := -20; n <= 20; n++ {
		numbers = append(numbers, n)
	}
	for _, degree := range numbers {
		for _, shares := range numbers {
			if n := welch.Lies(degree, shares); n != wantLies(degree, shares) {
				t.Errorf("Lies(%d, %d) = %d, not %d", degree, shares, n, wantLies(degree, shares))
			}
		}
	}
}

// We2: what Lies is, by heart.
func TestLiesByHeart(t *testing.T) {
	for degree, row := range [][]int{{0, 0, 0, 1, 1, 2, 2, 3, 0}, {0, 0, 0, 0, 1, 1, 2, 2, 0}, {0, 0, 0, 0, 0, 1, 1, 2, 0}, {0, 0, 0, 0, 0, 0, 1, 1, 0},
		{0, 0, 0, 0, 0, 0, 0, 1, 0}, {0, 0, 0, 0, 0, 0, 0, 0, 0}, {0, 0, 0, 0, 0, 0, 0, 0, 0}, {0, 0, 0, 0, 0, 0, 0, 0, 0}} {
		for shares, right := range row {
			if n := welch.Lies(degree, shares); n != right {
				t.Errorf("Lies(%d, %d) = %d, not %d", degree, shares, n, right)
			}
		}
	}
}

// We3: of all choices of shares, in any order, all choices of wrong ones, as many as may be: the polynomial comes back, and they are told.
func TestComesBack(t *testing.T) {
	r := rand.New(rand.NewPCG(15, 5))
	for _, g := range manyGroups(t) {
		draw := polyDrawer(g, r)
		for degree := range 7 {
			f := draw(degree + 1)
			right := want(g, bigs(g, f))
			dealt := deal(g, f)
			for count := degree + 1; count <= 7; count++ {
				for which := range 1 << count {
					chosen := mixed(r, dealt)[:count]
					bad := some(chosen, which)
					if len(bad) > wantLies(degree, count) {
						continue
					}
					got, told, e := welch.Decode(g, degree, wrong(g, r, chosen, which))
					if !slices.Equal(got, right) || !slices.Equal(told, numbersOf(bad)) || e != api.OK {
						t.Errorf("%x of %d by %x, without %d: %x, %d, %d", right, degree, g.Q(), numbersOf(bad), got, told, e)
					}
				}
			}
		}
	}
}

// We2: any number of wrong shares: with too many it is told that there are, or another polynomial, on which enough lie.
func TestAnyWrong(t *testing.T) {
	r := rand.New(rand.NewPCG(15, 6))
	for _, g := range []*group.Group{least(t), given(t, group.Great())} {
		draw := polyDrawer(g, r)
		for degree := range 7 {
			for count := degree + 1; count <= 7; count++ {
				for which := range 1 << count {
					checkDecode(t, g, degree, wrong(g, r, mixed(r, deal(g, draw(degree+1)))[:count], which))
				}
			}
		}
	}
}

// We2: one wrong share more than may be: it is told that there are too many, unless what is told has enough shares itself.
func TestOneTooMany(t *testing.T) {
	r := rand.New(rand.NewPCG(15, 7))
	for _, g := range []*group.Group{given(t, group.Great()), greatest(t)} {
		for degree := range 6 {
			for count := degree + 2; count <= 7; count++ {
				f := polyDrawer(g, r)(degree + 1)
				l := wrong(g, r, mixed(r, deal(g, f))[:count], 1<<(wantLies(degree, count)+1)-1)
				if e := checkDecode(t, g, degree, l); e != api.ErrBad {
					t.Errorf("%d of %d shares of %d are wrong: %d", wantLies(degree, count)+1, count, degree, e)
				}
			}
		}
	}
}

// We2: shares of two polynomials, however many of each: the one with enough of them is told, and the I of the others.
func TestTwoPolynomials(t *testing.T) {
	r := rand.New(rand.NewPCG(15, 8))
	for _, g := range []*group.Group{least(t), given(t, group.Other()), greatest(t)} {
		draw := polyDrawer(g, r)
		for degree := range 7 {
			a, b := deal(g, draw(degree+1)), deal(g, draw(degree+1))
			for which := range 1 << 7 {
				l := slices.Clone(a)
				for k := range l {
					if which>>k&1 == 1 {
						l[k] = b[k]
					}
				}
				checkDecode(t, g, degree, mixed(r, l)[:7-which%3])
			}
		}
	}
}

// We2: polynomials of fewer coefficients than could be, down to none.
func TestFewerCoefficients(t *testing.T) {
	r := rand.New(rand.NewPCG(15, 9))
	for _, g := range manyGroups(t) {
		for _, f := range [][]api.Nat{nil, of(0), of(7), of(0, 1), {less(g, 1), zero, one}, {one, one, g.Q(), zero}} {
			right := want(g, bigs(g, f))
			for degree := max(0, len(right)-1); degree < 7; degree++ {
				for which := range 1 << 7 {
					l := mixed(r, deal(g, f))
					bad := numbersOf(some(l, which))
					if len(bad) > wantLies(degree, 7) {
						continue
					}
					if got, told, e := welch.Decode(g, degree, wrong(g, r, l, which)); !slices.Equal(got, right) || !slices.Equal(told, bad) || e != api.OK {
						t.Errorf("%x of %d by %x, without %d: %x, %d, %d", right, degree, g.Q(), bad, got, told, e)
					}
				}
			}
		}
	}
}

// We2: a share's Y is what the polynomial is there: one that is not below Q is wrong, even if it is right by Q, and counts with the others.
func TestNotBelow(t *testing.T) {
	r := rand.New(rand.NewPCG(15, 10))
	for _, g := range manyGroups(t) {
		for degree := range 7 {
			f := of(3, 4, 5, 6, 7, 8, 9)[:degree+1]
			for count := degree + 1; count <= 7; count++ {
				for range 12 {
					l := mixed(r, deal(g, f))[:count]
					l = wrong(g, r, l, 1<<r.IntN(2)-1)
					for _, k := range r.Perm(count)[:min(count, r.IntN(3))] {
						l[k].Y = above(g, l[k].Y)
					}
					checkAgainst(t, g, degree, f, l)
				}
			}
		}
		for _, y := range []api.Nat{g.Q(), all} {
			l := []api.Share{{I: 3, Y: y}}
			if f, bad, e := welch.Decode(g, 0, l); len(f) != 0 || len(bad) != 0 || e != api.ErrBad {
				t.Errorf("%x as a share by %x: %x, %d, %d", y, g.Q(), f, bad, e)
			}
			l = []api.Share{{I: 3, Y: y}, {I: 1}, {I: 2}}
			if f, bad, e := welch.Decode(g, 0, l); len(f) != 0 || !slices.Equal(bad, []int{3}) || e != api.OK {
				t.Errorf("%x beside 0 by %x: %x, %d, %d", y, g.Q(), f, bad, e)
			}
		}
	}
}

// We2: all that are not below Q, and right by Q: there is no polynomial on which they lie.
func TestAllNotBelow(t *testing.T) {
	for _, g := range manyGroups(t) {
		for degree := range 7 {
			for count := degree + 1; count <= 7; count++ {
				for from := range count {
					l := deal(g, of(1, 2, 3, 4, 5, 6, 7)[:degree+1])[:count]
					for k := from; k < count; k++ {
						l[k].Y = above(g, l[k].Y)
					}
					right := api.ErrBad
					if count-from <= wantLies(degree, count) {
						right = api.OK
					}
					if _, _, e := welch.Decode(g, degree, l); e != right {
						t.Errorf("Decode(%d, %x) by %x = %d, not %d", degree, l, g.Q(), e, right)
					}
				}
			}
		}
	}
}

// We2: shares that are of nothing, as they come, some of them refused.
func TestDrawn(t *testing.T) {
	r := rand.New(rand.NewPCG(15, 11))
	for _, g := range []*group.Group{least(t), given(t, group.Least()), greatest(t)} {
		list := edges(g)
		for range 300 {
			var l []api.Share
			for range r.IntN(9) {
				y := of(r.IntN(2))[0]
				if r.IntN(4) == 0 {
					y = list[r.IntN(len(list))]
				}
				l = append(l, api.Share{I: r.IntN(9+60)%9 + r.IntN(2) - r.IntN(2), Y: y})
			}
			checkDecode(t, g, r.IntN(9)-1, l)
			l = l[:min(len(l), 7)]
			for k, i := range mixed(r, []int{1, 2, 3, 4, 5, 6, 7})[:len(l)] {
				l[k].I = i
			}
			checkDecode(t, g, r.IntN(7), l)
			checkDecode(t, g, r.IntN(3), l)
		}
	}
}

// We2: all shares of a small field at one place: the right one alone is not told to be wrong.
func TestAllShares(t *testing.T) {
	g := least(t)
	for k := range 4 {
		l := deal(g, of(300, 44))[:4]
		for y := range 2 * 521 {
			was := l[k].Y
			l[k].Y = nat.Of(y)
			right := []int{k + 1}
			if l[k].Y == was {
				right = nil
			}
			if f, bad, e := welch.Decode(g, 1, l); !slices.Equal(f, of(300, 44)) || !slices.Equal(bad, right) || e != api.OK {
				t.Errorf("with %d at %d: %x, %d, %d", y, k+1, f, bad, e)
			}
			l[k].Y = was
		}
	}
}

// We3: a share that is another one in one bit alone, of any limb, is told.
func TestOneBit(t *testing.T) {
	r := rand.New(rand.NewPCG(15, 12))
	for _, g := range []*group.Group{given(t, group.Great()), greatest(t)} {
		f := []api.Nat{drawer(g, r)(), less(g, 9), one}
		right := want(g, bigs(g, f))
		for bit := range api.MaxBits {
			l := deal(g, f)
			k := bit % 7
			l[k].Y[bit/api.LimbBits] ^= 1 << (bit % api.LimbBits)
			if got, bad, e := welch.Decode(g, 2, l); !slices.Equal(got, right) || !slices.Equal(bad, []int{k + 1}) || e != api.OK {
				t.Errorf("bit %d by %x: %x, %d, %d", bit, g.Q(), got, bad, e)
			}
		}
	}
}

// We2: degrees that are refused, with whatever shares, and shares that are too few, even if they lie on nothing.
func TestDegrees(t *testing.T) {
	r := rand.New(rand.NewPCG(15, 13))
	g := given(t, group.Great())
	l := wrong(g, r, deal(g, of(1, 2)), 1<<7-1)
	for n := range 8 {
		for _, degree := range []int{-1, -2, 7, 8, 1 << 8, 1 << 32, api.MaxInt, api.MinInt} {
			if f, bad, e := welch.Decode(g, degree, l[:n]); len(f) != 0 || len(bad) != 0 || e != api.ErrArg {
				t.Errorf("Decode(%d, %x) = %x, %d, %d", degree, l[:n], f, bad, e)
			}
		}
		for degree := n; degree < 7; degree++ {
			if f, bad, e := welch.Decode(g, degree, l[:n]); len(f) != 0 || len(bad) != 0 || e != api.ErrNone {
				t.Errorf("Decode(%d, %x) = %x, %d, %d", degree, l[:n], f, bad, e)
			}
		}
	}
	for _, none := range [][]api.Share{nil, {}} {
		if f, bad, e := welch.Decode(g, 0, none); len(f) != 0 || len(bad) != 0 || e != api.ErrNone {
			t.Errorf("Decode of none = %x, %d, %d", f, bad, e)
		}
	}
}

// We2: an I that may not be, or is there twice, wherever it stands, goes ahead of shares that are too few, or lie on nothing.
func TestNumbers(t *testing.T) {
	r := rand.New(rand.NewPCG(15, 14))
	for _, g := range []*group.Group{least(t), given(t, group.Great())} {
		dealt := deal(g, of(1, 2, 3))
		refused := func(l []api.Share) {
			for degree := range 7 {
				if f, bad, e := welch.Decode(g, degree, l); len(f) != 0 || len(bad) != 0 || e != api.ErrArg {
					t.Errorf("Decode(%d, %x) = %x, %d, %d", degree, l, f, bad, e)
				}
			}
		}
		for count := 1; count <= 7; count++ {
			for k := range count {
				for _, i := range []int{0, -1, -7, 8, 9, 256 + 1, 521 + 1, 1<<32 + 1, api.MaxInt, api.MinInt} {
					l := wrong(g, r, mixed(r, dealt)[:count], r.IntN(1<<count))
					l[k].I = i
					refused(l)
				}
				for other := range count {
					same, changed := slices.Clone(dealt[:count]), slices.Clone(dealt[:count])
					same[k], changed[k].I = same[other], changed[other].I
					if k != other {
						refused(same)
						refused(changed)
					}
				}
			}
		}
		refused(append(dealt[:7:7], dealt[0]))
		refused(slices.Repeat(dealt, 1<<12))
	}
}

// We2: where nothing is wrong, it is what layer 13 tells, and no I.
func TestNothingWrong(t *testing.T) {
	r := rand.New(rand.NewPCG(15, 15))
	for _, g := range manyGroups(t) {
		for degree := range 7 {
			l := deal(g, polyDrawer(g, r)(degree+1))
			for which := range 1 << 7 {
				chosen := mixed(r, some(l, which))
				right, no := share.Recover(g, degree, chosen)
				if f, bad, e := welch.Decode(g, degree, chosen); !slices.Equal(f, right) || len(bad) != 0 || e != no {
					t.Errorf("Decode(%d, %x) by %x = %x, %d, %d, not %x, %d", degree, chosen, g.Q(), f, bad, e, right, no)
				}
			}
		}
	}
}

// We1, We2: without a group nothing is told, but how many may be wrong.
func TestWithoutAGroup(t *testing.T) {
	refused, _ := group.New(api.Params{})
	for _, g := range []*group.Group{nil, {}, new(group.Group), refused} {
		for _, rows := range [][][]api.Nat{nil, {of(1)}, {of(0)}, {of(1, 2), of(3, 4)}, {nil}} {
			for n := range 3 {
				for _, number := range []int{0, 1} {
					if x, e := welch.Solve(g, rows, slices.Repeat(of(number), n)); len(x) != 0 || e != api.ErrArg {
						t.Errorf("Solve(%x) = %x, %d", rows, x, e)
					}
				}
			}
		}
		for degree := -1; degree <= 8; degree++ {
			for _, l := range [][]api.Share{nil, {}, {{I: 1}}, {{I: 1}, {I: 2}, {I: 3, Y: one}}, {{I: 1, Y: one}, {I: 2}}, {{I: 9}}} {
				if f, bad, e := welch.Decode(g, degree, l); len(f) != 0 || len(bad) != 0 || e != api.ErrArg {
					t.Errorf("Decode(%d, %x) = %x, %d, %d", degree, l, f, bad, e)
				}
			}
		}
	}
}

// We1, We2: what lies behind a list's end is neither read nor changed.
func TestRoomBehind(t *testing.T) {
	r := rand.New(rand.NewPCG(15, 16))
	g := given(t, group.Great())
	l := wrong(g, r, deal(g, of(1, 2, 3)), 1<<3)
	l[6].I, l[5] = 99, l[0]
	rows, right := drawRows(polyDrawer(g, r), 9, 9), polyDrawer(g, r)(9)
	wasL, wasRows, wasRight := slices.Clone(l), copyOf(rows), slices.Clone(right)
	for n := range 6 {
		for degree := range 4 {
			checkDecode(t, g, degree, l[:n])
		}
		for columns := range 8 {
			short := slices.Clone(rows)
			for k := range short {
				short[k] = short[k][:columns]
			}
			checkSolve(t, g, short[:n], right[:n])
		}
	}
	if !slices.Equal(l, wasL) || !sameRows(rows, wasRows) || !slices.Equal(right, wasRight) {
		t.Errorf("%x, %x, %x have become %x, %x, %x", wasL, wasRows, wasRight, l, rows, right)
	}
}

// fill writes over all of a list's memory, behind its end too.
func fill[T any](l []T, with T) {
	for k := range l[:cap(l)] {
		l[:cap(l)][k] = with
	}
}

// We1, We2: what is told is new memory: writing there shows neither in what was handed in, nor in what is told beside it, nor later.
func TestNewMemory(t *testing.T) {
	for _, g := range manyGroups(t) {
		f := of(5, 2)
		l := deal(g, f)
		l[2].Y, l[4].Y = nat.Of(100), nat.Of(200)
		wasL := slices.Clone(l)
		row := of(1, 0)
		rows, right := [][]api.Nat{row, row, of(0, 1)}, of(7, 7, 9)
		for range 2 {
			got, bad, e := welch.Decode(g, 1, l)
			if !slices.Equal(got, f) || !slices.Equal(bad, []int{3, 5}) || e != api.OK {
				t.Fatalf("5 + 2 x by %x: %x, %d, %d", g.Q(), got, bad, e)
			}
			fill(got, all)
			if !slices.Equal(bad, []int{3, 5}) {
				t.Fatalf("the I have become %d", bad)
			}
			fill(bad, 99)
			x, e := welch.Solve(g, rows, right)
			if !slices.Equal(x, of(7, 9)) || e != api.OK {
				t.Fatalf("7 and 9 by %x: %x, %d", g.Q(), x, e)
			}
			fill(x, all)
			if !slices.Equal(l, wasL) || !slices.Equal(row, of(1, 0)) || !slices.Equal(right, of(7, 7, 9)) {
				t.Fatalf("%x, %x or %x is shared", l, row, right)
			}
		}
	}
}

// FuzzWelch looks for equations and shares at which something goes wrong.
func FuzzWelch(f *testing.F) {
	f.Add(0, []byte{}, []byte{}, 0, uint64(0))
	f.Add(1, []byte{5, 2, 8, 9, 1, 3}, []byte{2, 3, 4}, 1, uint64(7))
	f.Add(3, []byte{4, 5, 6, 7, 1, 1, 2, 2, 0}, []byte{8, 7, 6, 0xd5, 4, 3, 0xe2}, 3, uint64(ones))
	f.Add(10, []byte{1, 6, 0}, []byte{0xd2, 0xe3, 0xf4, 1}, 2, uint64(1))
	groups := manyGroups(f)
	f.Fuzz(func(t *testing.T, which int, first, second []byte, n int, high uint64) {
		g := groups[uint(which)%uint(len(groups))]
		list := edges(g)
		var numbers []api.Nat
		for _, b := range first[:min(len(first), 300)] {
			if b >= 200 {
				numbers = append(numbers, list[int(b)%len(list)])
			} else {
				numbers = append(numbers, api.Nat{uint64(b % 8), high * uint64(b/100), 0, high * uint64(b/100)})
			}
		}
		columns := int(uint(n)%17) + 1
		var full [][]api.Nat
		for row := range slices.Chunk(numbers, columns+1) {
			full = append(full, row)
		}
		if len(full) > 0 && len(full[len(full)-1]) == columns+1 {
			rows, right := parted(full)
			checkSolve(t, g, rows, right)
		}
		h := numbers[:min(len(numbers), 1+int(uint(n)%7))]
		l := sharesOf(g, h, second[:min(len(second), 9)])
		checkDecode(t, g, n, l)
		checkDecode(t, g, n%8, l)
		checkDecode(t, g, max(0, len(l)-3), l)
		if bad := wantWrong(g, h, l); checkDecode(t, g, len(h)-1, l) != api.ErrArg && len(l) >= len(h) && len(bad) <= wantLies(len(h)-1, len(l)) {
			if back, told, e := welch.Decode(g, len(h)-1, l); !slices.Equal(back, want(g, bigs(g, h))) || !slices.Equal(told, bad) || e != api.OK {
				t.Errorf("%x by %x came back as %x, %d, %d", h, g.Q(), back, told, e)
			}
		}
	})
}

// sharesOf are shares out of bytes: an I and a Y each, of which some are on a polynomial, and some at the edges.
func sharesOf(g *group.Group, f []api.Nat, bytes []byte) []api.Share {
	list := edges(g)
	var l []api.Share
	for _, b := range bytes {
		i := int(b%16) - 1
		y := wantEval(g, f, nat.Of(i))
		if high := int(b) / 16; high > 10 {
			y = list[(len(l)*7+high)%len(list)]
		}
		l = append(l, api.Share{I: i, Y: y})
	}
	return l
}
