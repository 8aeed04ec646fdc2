package matrix_test

import (
	"crypto/sha256"
	"math/big"
	"math/rand/v2"
	"slices"
	"strings"
	"testing"

	"sacristy/api"
	"sacristy/group"
	"sacristy/matrix"
	"sacristy/nat"
	"sacristy/sha"
)

const ones = 1<<64 - 1

var (
	zero = api.Nat{}
	one  = api.Nat{1}
	all  = api.Nat{ones, ones, ones, ones}
)

// toBig is what the limbs mean, told without the packages that are tested.
func toBig(a api.Nat) *big.Int {
	sum := new(big.Int)
	for k := api.Limbs - 1; k >= 0; k-- {
		sum.Lsh(sum, api.LimbBits)
		sum.Add(sum, new(big.Int).SetUint64(a[k]))
	}
	return sum
}

// fromBig is a number below 2^256, as limbs.
func fromBig(n *big.Int) api.Nat {
	rest := new(big.Int).Set(n)
	var a api.Nat
	for k := range a {
		a[k] = new(big.Int).And(rest, new(big.Int).SetUint64(ones)).Uint64()
		rest.Rsh(rest, api.LimbBits)
	}
	return a
}

// shows tells whether a is layer 4's witness that n is a prime, if f is.
func shows(n, f *big.Int, a int) bool {
	one := big.NewInt(1)
	less := new(big.Int).Sub(n, one)
	often := new(big.Int).Quo(less, f)
	witness := big.NewInt(int64(a))
	if new(big.Int).Exp(witness, less, n).Cmp(one) != 0 {
		return false
	}
	root := new(big.Int).Exp(witness, often, n)
	return new(big.Int).GCD(nil, nil, n, root.Sub(root, one)).Cmp(one) == 0
}

// nextLink is the link of a prime from about so many bits on that f makes; it has fewer than twice as many bits as f.
func nextLink(t testing.TB, f api.Nat, bits int) api.Link {
	t.Helper()
	bf := toBig(f)
	k := new(big.Int).Lsh(big.NewInt(1), uint(bits-1))
	k.Quo(k, bf)
	for range 1 << 14 {
		n := new(big.Int).Mul(k, bf)
		k.Add(k, big.NewInt(1))
		n.Add(n, big.NewInt(1))
		if n.BitLen() < bits || n.Bit(0) == 0 {
			continue
		}
		if n.BitLen() > api.MaxBits || n.Cmp(new(big.Int).Mul(bf, bf)) >= 0 {
			break
		}
		for a := 2; n.ProbablyPrime(0) && a < 100; a++ {
			if shows(n, bf, a) {
				return api.Link{N: fromBig(n), A: a}
			}
		}
	}
	t.Fatalf("%x makes no prime of %d bits", f, bits)
	return api.Link{}
}

// groupOf is a group of a chain from a small prime on, a link for each of bits.
func groupOf(t testing.TB, first int, bits ...int) *group.Group {
	t.Helper()
	l := []api.Link{{N: nat.Of(first)}}
	for _, b := range bits {
		l = append(l, nextLink(t, l[len(l)-1].N, b))
	}
	p, q := toBig(l[len(l)-1].N), toBig(l[len(l)-2].N)
	often := new(big.Int).Sub(p, big.NewInt(1))
	often.Quo(often, q)
	for n := int64(2); n < 100; n++ {
		spawner := new(big.Int).Exp(big.NewInt(n), often, p)
		if g, e := group.New(api.Params{Chain: l, G: fromBig(spawner)}); e == api.OK {
			return g
		}
	}
	t.Fatalf("nothing spawns a subgroup by %x", l)
	return nil
}

// given is a group whose parameters are right.
func given(t testing.TB, p api.Params) *group.Group {
	t.Helper()
	g, e := group.New(p)
	if e != api.OK {
		t.Fatalf("New(%x) = %d", p, e)
	}
	return g
}

// least is the group whose Q is the least that may be: all of its numbers can be tried.
func least(t testing.TB) *group.Group {
	t.Helper()
	return groupOf(t, 521, 11)
}

// manyGroups are groups whose Q has one limb to four, from the least to one of as many bits as there may be.
func manyGroups(t testing.TB) []*group.Group {
	t.Helper()
	return []*group.Group{
		least(t), given(t, group.Least()), given(t, group.Other()), given(t, group.Great()),
		groupOf(t, 65521, 17),
		groupOf(t, 65521, 31, 50, 64, 74),
		groupOf(t, 65521, 31, 50, 65, 75),
		groupOf(t, 32771, 30, 58, 100, 192, 256),
		groupOf(t, 65521, 31, 60, 110, 200, 246, 256),
		groupOf(t, 65521, 31, 60, 110, 200, 250, 256),
		greatest(t),
	}
}

// greatest is a group whose Q has 255 bits, as many as it may have: P is twice Q, and 1.
func greatest(t testing.TB) *group.Group {
	t.Helper()
	digits := []string{"65521", "1074282317", "576460780807958477", "649037107316878326410637878470751",
		"803469022129495137770981108568449884878255012103186407123779",
		"57896044618595922064977028148842967554791797017574897235716261396257767476009",
		"115792089237191844129954056297685935109583594035149794471432522792515534952019"}
	p := api.Params{G: nat.Of(4)}
	for k := range digits {
		n, _ := new(big.Int).SetString(digits[k], 10)
		p.Chain = append(p.Chain, api.Link{N: fromBig(n), A: 2 * min(k, 1)})
	}
	return given(t, p)
}

// less is Q without so many.
func less(g *group.Group, n int) api.Nat {
	rest, _ := nat.Sub(g.Q(), nat.Of(n))
	return rest
}

// edges are naturals about 0, Q, what goes over limbs, and the greatest there are.
func edges(g *group.Group) []api.Nat {
	q := g.Q()
	list := []api.Nat{zero, one, nat.Of(2), nat.Of(3), less(g, 2), less(g, 1), q, nat.Down(q, 1),
		{ones}, {0, 1}, {ones, ones}, {0, 0, 1}, {ones, ones, ones}, {0, 0, 0, 1}, {0, 0, 0, 1 << 63}, all, {ones - 1, ones, ones, ones}}
	last := new(big.Int).Quo(toBig(all), toBig(q))
	for _, often := range []*big.Int{big.NewInt(1), big.NewInt(2), last} {
		for d := int64(-1); d <= 1; d++ {
			n := new(big.Int).Mul(toBig(q), often)
			if n.Add(n, big.NewInt(d)); n.BitLen() <= api.MaxBits {
				list = append(list, fromBig(n))
			}
		}
	}
	return list
}

// drawer draws naturals of all lengths, one in four of them below Q.
func drawer(g *group.Group, r *rand.Rand) func() api.Nat {
	return func() api.Nat {
		a := api.Nat{r.Uint64(), r.Uint64(), r.Uint64(), r.Uint64()}
		if r.IntN(4) == 0 {
			return fromBig(new(big.Int).Mod(toBig(a), toBig(g.Q())))
		}
		return nat.Down(a, r.IntN(api.MaxBits))
	}
}

// of are small numbers, as a polynomial or places.
func of(l ...int) []api.Nat {
	var list []api.Nat
	for _, n := range l {
		list = append(list, nat.Of(n))
	}
	return list
}

// wantExp is a power, by P.
func wantExp(g *group.Group, a, e api.Nat) api.Nat {
	return fromBig(new(big.Int).Exp(toBig(a), toBig(e), toBig(g.P())))
}

// member is G to a number.
func member(g *group.Group, e api.Nat) api.Nat {
	return wantExp(g, g.G(), e)
}

// members are powers of G, by small numbers.
func members(g *group.Group, l ...int) []api.Nat {
	var list []api.Nat
	for _, n := range l {
		list = append(list, member(g, nat.Of(n)))
	}
	return list
}

// isMember is what layer 9 says of a member.
func isMember(g *group.Group, a api.Nat) bool {
	return toBig(a).Sign() > 0 && toBig(a).Cmp(toBig(g.P())) < 0 && wantExp(g, a, g.Q()) == one
}

// below tells whether a natural is below another one.
func below(a, b api.Nat) bool {
	return toBig(a).Cmp(toBig(b)) < 0
}

// wantEval is the sum of each coefficient times a place to its number, told power by power; the place may be below 0.
func wantEval(g *group.Group, f []api.Nat, i int) api.Nat {
	q := toBig(g.Q())
	at := new(big.Int).Mod(big.NewInt(int64(i)), q)
	sum := new(big.Int)
	for k, n := range f {
		raised := new(big.Int).Exp(at, big.NewInt(int64(k)), q)
		sum.Add(sum, raised.Mul(raised, toBig(n)))
	}
	return fromBig(sum.Mod(sum, q))
}

// wantShare are a server's shares of polynomials.
func wantShare(g *group.Group, polys [][]api.Nat, i int) api.Part {
	p := api.Part{I: i}
	for _, f := range polys {
		p.Ys = append(p.Ys, wantEval(g, f, i))
	}
	return p
}

// wantBytes are a matrix's bytes, told without layer 1; none, if it is not to be put.
func wantBytes(m api.Matrix) string {
	if len(m) < 1 || len(m) > 25 || len(m[0]) < 1 || len(m[0]) > 7 {
		return ""
	}
	text := []byte{byte(len(m)), byte(len(m[0]))}
	for _, row := range m {
		if len(row) != len(m[0]) {
			return ""
		}
		for _, c := range row {
			bytes := toBig(c).Bytes()
			text = append(append(text, byte(len(bytes))), bytes...)
		}
	}
	return string(text)
}

// wantTake is the matrix of bytes: what they say, if these are its bytes.
func wantTake(s string) (api.Matrix, api.Errno) {
	if len(s) < 2 || s[0] > 25 || s[1] > 7 {
		return nil, api.ErrBad
	}
	m := make(api.Matrix, s[0])
	rest := s[2:]
	for k := range m {
		for range int(s[1]) {
			if rest == "" || rest[0] > 32 || len(rest) < 1+int(rest[0]) {
				return nil, api.ErrBad
			}
			count := 1 + int(rest[0])
			m[k] = append(m[k], fromBig(new(big.Int).SetBytes([]byte(rest[1:count]))))
			rest = rest[count:]
		}
	}
	if wantBytes(m) != s {
		return nil, api.ErrBad
	}
	return m, api.OK
}

// wantMay tells whether a matrix may be.
func wantMay(g *group.Group, t int, m api.Matrix) bool {
	if t != 1 && t != 2 || len(m) < 1 || len(m) > 25 {
		return false
	}
	return !slices.ContainsFunc(m, func(row []api.Nat) bool {
		return len(row) != t+1 || slices.ContainsFunc(row, func(a api.Nat) bool { return !isMember(g, a) })
	})
}

// wantRowHolds tells whether a row commits to what a server has of it.
func wantRowHolds(g *group.Group, row []api.Nat, i int, y api.Nat) bool {
	if i < 1 || i > 7 || !below(y, g.Q()) || len(row) < 1 || len(row) > 7 {
		return false
	}
	product := big.NewInt(1)
	for k, c := range row {
		if !isMember(g, c) {
			return false
		}
		exp := new(big.Int).Exp(big.NewInt(int64(i)), big.NewInt(int64(k)), nil)
		product.Mul(product, toBig(wantExp(g, c, fromBig(exp))))
	}
	return product.Mod(product, toBig(g.P())).Cmp(toBig(member(g, y))) == 0
}

// wantHolds tells whether a server's shares hold.
func wantHolds(g *group.Group, m api.Matrix, p api.Part) bool {
	if len(p.Ys) != len(m) {
		return false
	}
	for k := range m {
		if !wantRowHolds(g, m[k], p.I, p.Ys[k]) {
			return false
		}
	}
	return true
}

// wantDeal is what is dealt, by the chapter's words; none, if it is refused.
func wantDeal(g *group.Group, t int, numbers, random []api.Nat) (api.Matrix, []api.Part, api.Errno) {
	if t != 1 && t != 2 || len(numbers) < 1 || len(numbers) > 25 || len(random) != t*len(numbers) {
		return nil, nil, api.ErrArg
	}
	for _, n := range slices.Concat(numbers, random) {
		if !below(n, g.Q()) {
			return nil, nil, api.ErrArg
		}
	}
	polys := polysOf(t, numbers, random)
	var parts []api.Part
	for i := 1; i <= 3*t+1; i++ {
		parts = append(parts, wantShare(g, polys, i))
	}
	return committed(g, polys), parts, api.OK
}

// polysOf are the polynomials of numbers, each with its random ones behind it.
func polysOf(t int, numbers, random []api.Nat) [][]api.Nat {
	var polys [][]api.Nat
	for k, n := range numbers {
		f := []api.Nat{n}
		for j := range t {
			f = append(f, random[k*t+j])
		}
		polys = append(polys, f)
	}
	return polys
}

// committed is the matrix of polynomials, of as many commitments as coefficients.
func committed(g *group.Group, polys [][]api.Nat) api.Matrix {
	m := make(api.Matrix, len(polys))
	for k, f := range polys {
		for _, a := range f {
			m[k] = append(m[k], member(g, a))
		}
	}
	return m
}

// wantNumbers are the different I of parts that hold.
func wantNumbers(g *group.Group, m api.Matrix, l []api.Part) []int {
	var numbers []int
	for _, p := range l {
		if !slices.Contains(numbers, p.I) && wantHolds(g, m, p) {
			numbers = append(numbers, p.I)
		}
	}
	return numbers
}

// wantRecover is the error that Recover tells.
func wantRecover(g *group.Group, t int, m api.Matrix, l []api.Part) api.Errno {
	if !wantMay(g, t, m) {
		return api.ErrArg
	}
	if len(wantNumbers(g, m, l)) < t+1 {
		return api.ErrNone
	}
	return api.OK
}

// copyOf is a matrix, or polynomials, in memory of its own.
func copyOf[M ~[][]api.Nat](m M) M {
	list := make(M, len(m))
	for k := range m {
		list[k] = slices.Clone(m[k])
	}
	return list
}

// copyParts are parts in memory of their own.
func copyParts(l []api.Part) []api.Part {
	list := slices.Clone(l)
	for k := range list {
		list[k].Ys = slices.Clone(list[k].Ys)
	}
	return list
}

// sameRows tells whether rows are the same, one by one.
func sameRows(a, b [][]api.Nat) bool {
	return slices.EqualFunc(a, b, slices.Equal)
}

// sameParts tells whether parts are the same, one by one.
func sameParts(a, b []api.Part) bool {
	return slices.EqualFunc(a, b, func(x, y api.Part) bool { return x.I == y.I && slices.Equal(x.Ys, y.Ys) })
}

// checkBytes looks at Bytes and Digest, at Take of what they tell, and whether the matrix is left as it was.
func checkBytes(t *testing.T, m api.Matrix) string {
	t.Helper()
	was := copyOf(m)
	s, right := matrix.Bytes(m), wantBytes(m)
	if s != right {
		t.Errorf("Bytes(%x) = %x, not %x", m, s, right)
	}
	if digest, sum := matrix.Digest(m), sha256.Sum256([]byte(right)); digest != string(sum[:]) {
		t.Errorf("Digest(%x) = %x, not %x", m, digest, sum)
	}
	if back, e := matrix.Take(right); right != "" && (!sameRows(back, m) || e != api.OK) {
		t.Errorf("Take(%x) = %x, %d, not %x", right, back, e, m)
	}
	if !sameRows(m, was) {
		t.Errorf("%x has become %x", was, m)
	}
	return right
}

// checkTake looks at Take.
func checkTake(t *testing.T, s string) api.Errno {
	t.Helper()
	m, e := matrix.Take(s)
	right, wrong := wantTake(s)
	if !sameRows(m, right) || e != wrong {
		t.Errorf("Take(%x) = %x, %d, not %x, %d", s, m, e, right, wrong)
	}
	return wrong
}

// checkMay looks at May, and whether the matrix is left as it was.
func checkMay(t *testing.T, g *group.Group, liars int, m api.Matrix) bool {
	t.Helper()
	was := copyOf(m)
	may, right := matrix.May(g, liars, m), wantMay(g, liars, m)
	if may != right {
		t.Errorf("May(%d, %x) by %x = %t", liars, m, g.P(), may)
	}
	if !sameRows(m, was) {
		t.Errorf("%x has become %x", was, m)
	}
	return right
}

// checkHolds looks at Holds, and whether all is left as it was.
func checkHolds(t *testing.T, g *group.Group, m api.Matrix, p api.Part) bool {
	t.Helper()
	was, wasYs := copyOf(m), slices.Clone(p.Ys)
	holds, right := matrix.Holds(g, m, p), wantHolds(g, m, p)
	if holds != right {
		t.Errorf("Holds(%x, %x) by %x = %t", m, p, g.P(), holds)
	}
	if !sameRows(m, was) || !slices.Equal(p.Ys, wasYs) {
		t.Errorf("%x, %x have become %x, %x", was, wasYs, m, p.Ys)
	}
	return right
}

// checkDeal looks at Deal, and whether the numbers are left as they were.
func checkDeal(t *testing.T, g *group.Group, liars int, numbers, random []api.Nat) (api.Matrix, []api.Part, api.Errno) {
	t.Helper()
	was, wasRandom := slices.Clone(numbers), slices.Clone(random)
	m, l, e := matrix.Deal(g, liars, numbers, random)
	right, parts, wrong := wantDeal(g, liars, numbers, random)
	if !sameRows(m, right) || !sameParts(l, parts) || e != wrong {
		t.Errorf("Deal(%d, %x, %x) by %x = %x, %x, %d, not %x, %x, %d", liars, numbers, random, g.Q(), m, l, e, right, parts, wrong)
	}
	if !slices.Equal(numbers, was) || !slices.Equal(random, wasRandom) {
		t.Errorf("%x, %x have become %x, %x", was, wasRandom, numbers, random)
	}
	return m, l, e
}

// checkRecover looks at Recover: what it tells has just these commitments, so many; and whether all is left as it was.
func checkRecover(t *testing.T, g *group.Group, liars int, m api.Matrix, l []api.Part) ([][]api.Nat, api.Errno) {
	t.Helper()
	was, wasL := copyOf(m), copyParts(l)
	polys, e := matrix.Recover(g, liars, m, l)
	if wrong := wantRecover(g, liars, m, l); e != wrong {
		t.Errorf("Recover(%d, %x, %x) by %x = %d, not %d", liars, m, l, g.P(), e, wrong)
	}
	if e != api.OK && len(polys) != 0 {
		t.Errorf("Recover(%d, %x, %x) by %x = %x, beside %d", liars, m, l, g.P(), polys, e)
	}
	for _, a := range slices.Concat(polys...) {
		if !below(a, g.Q()) {
			t.Errorf("%x by %x is not in the field", polys, g.Q())
		}
	}
	if e == api.OK && !sameRows(committed(g, polys), m) {
		t.Errorf("Recover(%d, %x, %x) by %x = %x", liars, m, l, g.P(), polys)
	}
	if !sameRows(m, was) || !sameParts(l, wasL) {
		t.Errorf("%x, %x have become %x, %x", was, wasL, m, l)
	}
	return polys, e
}

// checkShare looks at Share, and whether the polynomials are left as they were.
func checkShare(t *testing.T, g *group.Group, polys [][]api.Nat, i int) {
	t.Helper()
	was := copyOf(polys)
	p, right := matrix.Share(g, polys, i), wantShare(g, polys, i)
	if p.I != right.I || !slices.Equal(p.Ys, right.Ys) {
		t.Errorf("Share(%x, %d) by %x = %x, not %x", polys, i, g.Q(), p, right)
	}
	if !sameRows(polys, was) {
		t.Errorf("%x has become %x", was, polys)
	}
}

// fieldDrawer draws so many numbers of the field, of which some are 0, and some the last one.
func fieldDrawer(g *group.Group, r *rand.Rand) func(count int) []api.Nat {
	draw := drawer(g, r)
	return func(count int) []api.Nat {
		list := make([]api.Nat, count)
		for k := range list {
			switch r.IntN(8) {
			case 0:
			case 1:
				list[k] = less(g, 1)
			default:
				list[k] = fromBig(new(big.Int).Mod(toBig(draw()), toBig(g.Q())))
			}
		}
		return list
	}
}

// dealt is what is dealt of numbers that are drawn, and the polynomials.
func dealt(t *testing.T, g *group.Group, r *rand.Rand, liars, count int) ([][]api.Nat, api.Matrix, []api.Part) {
	t.Helper()
	draw := fieldDrawer(g, r)
	numbers, random := draw(count), draw(liars*count)
	m, l, e := checkDeal(t, g, liars, numbers, random)
	if e != api.OK {
		t.Fatalf("Deal(%d, %x, %x) by %x = %d", liars, numbers, random, g.Q(), e)
	}
	return polysOf(liars, numbers, random), m, l
}

// allParts are the shares of all servers that there may be, more than may be dealt to.
func allParts(g *group.Group, polys [][]api.Nat) []api.Part {
	var l []api.Part
	for i := 1; i <= api.MaxServers; i++ {
		l = append(l, wantShare(g, polys, i))
	}
	return l
}

// partsFrom are parts of the servers from 1 on.
func partsFrom(lists ...[]api.Nat) []api.Part {
	var l []api.Part
	for k, ys := range lists {
		l = append(l, api.Part{I: k + 1, Ys: ys})
	}
	return l
}

// lie is a part of the same number that does not hold, in one of many ways.
func lie(g *group.Group, r *rand.Rand, p api.Part) api.Part {
	p.Ys = slices.Clone(p.Ys)
	k := r.IntN(len(p.Ys))
	switch over, carry := nat.Add(p.Ys[k], g.Q()); r.IntN(6) {
	case 0:
		p.Ys = p.Ys[:len(p.Ys)-1]
	case 1:
		p.Ys = append(p.Ys, p.Ys[k])
	case 2:
		p.Ys = nil
	case 3:
		if carry == 0 {
			p.Ys[k] = over
			break
		}
		fallthrough
	case 4:
		p.Ys[k][0] ^= 1
	default:
		for j := range p.Ys {
			p.Ys[j] = wantEval(g, []api.Nat{p.Ys[j], one}, 1)
		}
	}
	return p
}

// strange are naturals that are no members: 0, what is not below P, and what is below P, but not in the subgroup.
func strange(g *group.Group) []api.Nat {
	p := toBig(g.P())
	list := []api.Nat{zero, g.P(), all, fromBig(new(big.Int).Sub(p, big.NewInt(1)))}
	for _, n := range []*big.Int{big.NewInt(1), toBig(g.G())} {
		if over := new(big.Int).Add(p, n); over.BitLen() <= api.MaxBits {
			list = append(list, fromBig(over))
		}
	}
	return append(list, fromBig(new(big.Int).Sub(p, toBig(g.G()))))
}

// some are those of a list whose bit is set in which.
func some[T any](l []T, which int) []T {
	var list []T
	for k := range l {
		if which>>k&1 == 1 {
			list = append(list, l[k])
		}
	}
	return list
}

// mixed is a list in another order.
func mixed[T any](r *rand.Rand, l []T) []T {
	list := slices.Clone(l)
	r.Shuffle(len(list), func(a, b int) { list[a], list[b] = list[b], list[a] })
	return list
}

// Mx2, Mx3: the chapter's example, and what is known by heart.
func TestExamples(t *testing.T) {
	for _, g := range manyGroups(t) {
		m, l, e := matrix.Deal(g, 1, of(5), of(2))
		if len(m) != 1 || !slices.Equal(m[0], members(g, 5, 2)) || e != api.OK {
			t.Fatalf("one number, one liar, by %x: %x, %d", g.P(), m, e)
		}
		if right := partsFrom(of(7), of(9), of(11), of(13)); !sameParts(l, right) {
			t.Errorf("the parts of 5 + 2 x by %x: %x", g.Q(), l)
		}
		if polys, e := matrix.Recover(g, 1, m, l[2:]); !sameRows(polys, [][]api.Nat{of(5, 2)}) || e != api.OK {
			t.Errorf("of two parts by %x: %x, %d", g.Q(), polys, e)
		}
		if polys, e := matrix.Recover(g, 1, m, l[:1]); len(polys) != 0 || e != api.ErrNone {
			t.Errorf("of one part by %x: %x, %d", g.Q(), polys, e)
		}
		m, l, e = matrix.Deal(g, 2, of(5, 9), of(1, 2, 3, 4))
		if !sameRows(m, api.Matrix{members(g, 5, 1, 2), members(g, 9, 3, 4)}) || e != api.OK {
			t.Errorf("two numbers, two liars, by %x: %x, %d", g.P(), m, e)
		}
		if right := partsFrom(of(8, 16), of(15, 31), of(26, 54), of(41, 85), of(60, 124), of(83, 171), of(110, 226)); !sameParts(l, right) {
			t.Errorf("the parts by %x: %x", g.Q(), l)
		}
		if p := matrix.Share(g, [][]api.Nat{of(5, 1, 2), of(9, 3, 4)}, 7); !sameParts([]api.Part{p}, l[6:]) {
			t.Errorf("the last part by %x: %x", g.Q(), p)
		}
	}
}

// Mx1: bytes that are known by heart.
func TestBytesByHeart(t *testing.T) {
	for _, c := range []struct {
		m api.Matrix
		s string
	}{
		{api.Matrix{of(0)}, "\x01\x01\x00"},
		{api.Matrix{of(1)}, "\x01\x01\x01\x01"},
		{api.Matrix{of(255, 256)}, "\x01\x02\x01\xff\x02\x01\x00"},
		{api.Matrix{of(1), of(2), of(3)}, "\x03\x01\x01\x01\x01\x02\x01\x03"},
		{api.Matrix{of(1, 2), of(0, 0x616263)}, "\x02\x02\x01\x01\x01\x02\x00\x03abc"},
		{api.Matrix{{all, zero}}, "\x01\x02\x20" + strings.Repeat("\xff", 32) + "\x00"},
		{api.Matrix{{{0, 0, 0, 1}}}, "\x01\x01\x19\x01" + strings.Repeat("\x00", 24)},
	} {
		if s := checkBytes(t, c.m); s != c.s {
			t.Errorf("the model tells %x of %x", s, c.m)
		}
		if s := matrix.Bytes(c.m); s != c.s {
			t.Errorf("Bytes(%x) = %x, not %x", c.m, s, c.s)
		}
		if m, e := matrix.Take(c.s); !sameRows(m, c.m) || e != api.OK {
			t.Errorf("Take(%x) = %x, %d", c.s, m, e)
		}
	}
	if digest := sha.Hex(matrix.Digest(api.Matrix{of(0)})); digest != "9f44ac6acb8a37b00b615dc89259d306035be82dee7db2b472e4c48326195440" {
		t.Errorf("the digest of one 0: %s", digest)
	}
}

// Mx1: matrices of all numbers of rows and columns, about the bounds and beyond, with naturals at the edges.
func TestBytesShapes(t *testing.T) {
	r := rand.New(rand.NewPCG(16, 1))
	g := given(t, group.Great())
	list := append(edges(g), strange(g)...)
	for rows := range 29 {
		for columns := range 10 {
			m := make(api.Matrix, rows)
			for k := range m {
				for range columns {
					m[k] = append(m[k], list[r.IntN(len(list))])
				}
			}
			s := checkBytes(t, m)
			if toBePut := rows >= 1 && rows <= 25 && columns >= 1 && columns <= 7; (s != "") != toBePut {
				t.Errorf("%d rows of %d: %x", rows, columns, s)
			}
		}
	}
	for _, m := range []api.Matrix{nil, {}, {nil}, {{}}, {nil, nil}, slices.Repeat(api.Matrix{of(1)}, 256+1), slices.Repeat(api.Matrix{of(1)}, 1<<16+1),
		{slices.Repeat(of(1), 256+1)}, {slices.Repeat(of(1), 1<<16)}} {
		if s := checkBytes(t, m); s != "" {
			t.Errorf("%d rows are to be put", len(m))
		}
	}
}

// Mx1: a row of another length, wherever it stands.
func TestBytesUneven(t *testing.T) {
	for rows := 2; rows <= 25; rows++ {
		for k := range rows {
			for count := range 9 {
				m := slices.Repeat(api.Matrix{of(1, 2, 3)}, rows)
				m[k] = slices.Repeat(of(4), count)
				if s := checkBytes(t, m); (s != "") != (count == 3) {
					t.Errorf("%x: %x", m, s)
				}
			}
		}
	}
}

// Mx1: naturals of each number of bits, at each place.
func TestBytesOfNaturals(t *testing.T) {
	for bits := range api.MaxBits + 1 {
		for _, a := range []api.Nat{nat.Down(all, api.MaxBits-bits), nat.Up(one, bits)} {
			if bits == 0 {
				a = zero
			}
			checkBytes(t, api.Matrix{{a}})
			checkBytes(t, api.Matrix{{one, a}, {a, zero}})
			checkBytes(t, api.Matrix{{one, one}, {zero, a}})
		}
	}
}

// takeable are bytes of matrices, short and long.
func takeable(t *testing.T) []string {
	t.Helper()
	g := given(t, group.Great())
	row := members(g, 1, 2, 3)
	var list []string
	for _, m := range []api.Matrix{{of(0)}, {of(1)}, {of(0, 0), of(0, 0)}, {of(1, 256, 0)}, {of(3), of(2), of(1)}, {{all}, {one}}, {row, row}, slices.Repeat(api.Matrix{row}, 25), {slices.Repeat(of(7), 7)}} {
		s := wantBytes(m)
		if s == "" {
			t.Fatalf("%x is not to be put", m)
		}
		list = append(list, s)
	}
	return list
}

// Mx1: bytes that are cut anywhere, or have more behind, are those of no matrix.
func TestTakeCut(t *testing.T) {
	for _, s := range takeable(t) {
		if checkTake(t, s) != api.OK {
			t.Errorf("%x is taken for none", s)
		}
		for k := range s {
			if m, e := matrix.Take(s[:k]); len(m) != 0 || e != api.ErrBad {
				t.Errorf("Take(%x) = %x, %d", s[:k], m, e)
			}
			checkTake(t, s[k+1:])
		}
		for b := range 256 {
			if m, e := matrix.Take(s + string([]byte{byte(b)})); len(m) != 0 || e != api.ErrBad {
				t.Errorf("Take of %x and %d = %x, %d", s, b, m, e)
			}
		}
		for _, more := range []string{s, "\x00\x00", strings.Repeat("\x00", 1<<12)} {
			if m, e := matrix.Take(s + more); len(m) != 0 || e != api.ErrBad {
				t.Errorf("Take of %x and more = %x, %d", s, m, e)
			}
		}
	}
}

// Mx1: each byte changed into each other one.
func TestTakeChanged(t *testing.T) {
	for _, s := range takeable(t) {
		for k := range min(len(s), 80) {
			for b := range 256 {
				checkTake(t, s[:k]+string([]byte{byte(b)})+s[k+1:])
			}
			checkTake(t, s[:k]+"\x00"+s[k:])
			checkTake(t, s[:k]+"\x01\x01"+s[k:])
		}
	}
}

// Mx1: all numbers of rows and columns, with as many naturals as they say, or one more or less.
func TestTakeCounts(t *testing.T) {
	for _, rows := range []int{0, 1, 2, 3, 24, 25, 26, 27, 128, 255} {
		for columns := range 256 {
			for _, off := range []int{-1, 0, 1} {
				s := string([]byte{byte(rows), byte(columns)}) + strings.Repeat("\x00", max(0, rows*columns+off))
				e := checkTake(t, s)
				if right := off == 0 && rows >= 1 && rows <= 25 && columns >= 1 && columns <= 7; (e == api.OK) != right {
					t.Errorf("%d rows of %d, and %d: %d", rows, columns, off, e)
				}
			}
		}
	}
}

// Mx1: naturals that layer 1 does not take: with a byte 0 ahead, or too many bytes.
func TestTakeNaturals(t *testing.T) {
	for count := range 256 {
		for _, first := range []string{"\x00", "\x01", "\x80", "\xff"} {
			a := string([]byte{byte(count)}) + (first + strings.Repeat("\x00", 255))[:count]
			right := count == 0 || count <= 32 && first != "\x00"
			for _, s := range []string{"\x01\x01" + a, "\x02\x01\x01\x05" + a, "\x01\x03\x00" + a + "\x00"} {
				if e := checkTake(t, s); (e == api.OK) != right {
					t.Errorf("Take(%x): %d", s, e)
				}
			}
		}
	}
}

// Mx1: no two short texts are taken for one matrix, and each that is taken is put as it was.
func TestTakeShort(t *testing.T) {
	for length := range 6 {
		text := make([]byte, length)
		for n := range 1 << (3 * length) {
			for k := range text {
				text[k] = byte(n >> (3 * k) & 7)
			}
			s := string(text)
			checkTake(t, s)
			if m, e := matrix.Take(s); e == api.OK && matrix.Bytes(m) != s {
				t.Errorf("%x is put as %x", s, matrix.Bytes(m))
			}
		}
	}
}

// Mx1: another natural, another place or another number of rows makes another digest.
func TestDigests(t *testing.T) {
	seen := map[string]int{}
	list := []api.Matrix{{of(1)}, {of(0)}, {of(1, 2)}, {of(2, 1)}, {of(1), of(2)}, {of(2), of(1)}, {of(1, 2), of(3, 4)}, {of(1, 2, 3, 4)}, {of(1), of(2), of(3), of(4)}, {of(256)}, {of(1, 0)}, {of(0, 1)}}
	for k, m := range list {
		digest := matrix.Digest(m)
		if before, there := seen[digest]; there || len(digest) != 32 {
			t.Errorf("%x has the digest %x, as %x", m, digest, list[before])
		}
		seen[digest] = k
	}
	none := sha256.Sum256(nil)
	for _, m := range []api.Matrix{nil, {}, {nil}, {of(1), of(1, 2)}, slices.Repeat(api.Matrix{of(1)}, 26)} {
		if digest := matrix.Digest(m); digest != string(none[:]) {
			t.Errorf("the digest of %x: %x", m, digest)
		}
	}
}

// Mx1: matrices of all numbers of rows and columns, for all numbers of liars.
func TestMay(t *testing.T) {
	for _, g := range []*group.Group{least(t), given(t, group.Great())} {
		row := members(g, 0, 1, 2, 3, 4, 5, 6, 7, 8)
		for rows := range 28 {
			for columns := range 9 {
				m := slices.Repeat(api.Matrix{row[:columns]}, rows)
				for liars := -1; liars <= 7; liars++ {
					may := matrix.May(g, liars, m)
					if right := rows >= 1 && rows <= 25 && (liars == 1 || liars == 2) && columns == liars+1; may != right {
						t.Errorf("%d rows of %d for %d by %x: %t", rows, columns, liars, g.P(), may)
					}
				}
			}
		}
		for _, liars := range []int{256 + 1, 1<<32 + 1, 1<<32 + 2, api.MaxInt, api.MinInt, api.MinInt + 1} {
			for columns := range 9 {
				if matrix.May(g, liars, api.Matrix{row[:columns]}) {
					t.Errorf("a row of %d for %d by %x may be", columns, liars, g.P())
				}
			}
		}
		for _, rows := range []int{256 + 1, 1<<16 + 1} {
			if matrix.May(g, 1, slices.Repeat(api.Matrix{row[:2]}, rows)) {
				t.Errorf("%d rows by %x may be", rows, g.P())
			}
		}
	}
}

// Mx1: one that is no member, or a row of another length, wherever it stands.
func TestMayNot(t *testing.T) {
	for _, g := range manyGroups(t) {
		for liars := 1; liars <= 2; liars++ {
			for _, rows := range []int{1, 2, 25} {
				m := make(api.Matrix, rows)
				for k := range m {
					m[k] = members(g, k, 2, 3)[:liars+1]
				}
				if !checkMay(t, g, liars, m) {
					t.Errorf("%x for %d by %x may not be", m, liars, g.P())
				}
				for _, k := range []int{0, rows / 2, rows - 1} {
					row := m[k]
					for j := range row {
						for _, a := range strange(g) {
							was := row[j]
							row[j] = a
							if matrix.May(g, liars, m) {
								t.Errorf("%x for %d by %x may be", m, liars, g.P())
							}
							row[j] = was
						}
					}
					for _, other := range [][]api.Nat{nil, row[:liars], append(row[:liars+1:liars+1], one)} {
						m[k] = other
						if matrix.May(g, liars, m) {
							t.Errorf("%x for %d by %x may be", m, liars, g.P())
						}
					}
					m[k] = row
				}
			}
		}
	}
}

// Mx1: in a small group, each of all numbers at each place of a matrix: just the powers of G may be.
func TestMayAll(t *testing.T) {
	g := least(t)
	p, _ := nat.Int(g.P())
	powers := map[api.Nat]bool{}
	for k := range 521 {
		powers[member(g, nat.Of(k))] = true
	}
	for n := range 2 * p {
		for k := range 4 {
			m := api.Matrix{of(1, 1), of(1, 1)}
			m[k/2][k%2] = nat.Of(n)
			if may := matrix.May(g, 1, m); may != powers[nat.Of(n)] {
				t.Errorf("%d: %t", n, may)
			}
		}
	}
}

// Mx1, Mx4: what is dealt holds; no other number of it, no part of another server, and none that lies does.
func TestHolds(t *testing.T) {
	r := rand.New(rand.NewPCG(16, 2))
	for _, g := range manyGroups(t) {
		for liars := 1; liars <= 2; liars++ {
			for _, count := range []int{1, 2, 3} {
				polys, m, l := dealt(t, g, r, liars, count)
				for _, p := range l {
					if !checkHolds(t, g, m, p) {
						t.Errorf("%x of %x by %x does not hold", p, polys, g.P())
					}
					for _, i := range []int{-1, 0, 1, 2, 7, 8, 256 + p.I, 1<<32 + p.I, api.MaxInt, api.MinInt} {
						checkHolds(t, g, m, api.Part{I: i, Ys: p.Ys})
					}
					for range 4 {
						if other := lie(g, r, p); checkHolds(t, g, m, other) {
							t.Errorf("%x of %x by %x holds", other, polys, g.P())
						}
					}
				}
				for _, p := range allParts(g, polys) {
					if !checkHolds(t, g, m, p) {
						t.Errorf("%x of %x by %x does not hold", p, polys, g.P())
					}
				}
			}
		}
	}
}

// Mx1: a share that is wrong, in any row, alone; and rows out of turn.
func TestHoldsEachRow(t *testing.T) {
	r := rand.New(rand.NewPCG(16, 3))
	for _, g := range []*group.Group{least(t), given(t, group.Great()), greatest(t)} {
		for liars := 1; liars <= 2; liars++ {
			_, m, l := dealt(t, g, r, liars, 25)
			for k := range m {
				p := copyParts(l)[k%len(l)]
				if !matrix.Holds(g, m, p) {
					t.Fatalf("%x by %x does not hold of %x", p, g.P(), m)
				}
				p.Ys[k][0] ^= 1
				if matrix.Holds(g, m, p) {
					t.Errorf("%x by %x holds of %x", p, g.P(), m)
				}
				p.Ys[k] = l[k%len(l)].Ys[k]
				if other := (k + 1) % 25; p.Ys[k] != p.Ys[other] {
					p.Ys[k], p.Ys[other] = p.Ys[other], p.Ys[k]
					if matrix.Holds(g, m, p) {
						t.Errorf("%x by %x holds of %x", p, g.P(), m)
					}
				}
			}
		}
	}
}

// Mx1: as many shares as rows are asked for, and nothing else of the matrix' rows but what layer 14 asks of each.
func TestHoldsShapes(t *testing.T) {
	for _, g := range manyGroups(t) {
		for rows := range 5 {
			for shares := range 6 {
				m := slices.Repeat(api.Matrix{of(1, 1)}, rows)
				if holds := matrix.Holds(g, m, api.Part{I: 3, Ys: make([]api.Nat, shares)}); holds != (rows == shares) {
					t.Errorf("%d shares of %d rows by %x: %t", shares, rows, g.P(), holds)
				}
			}
		}
		uneven := api.Matrix{members(g, 4), members(g, 5, 1), members(g, 1, 1, 1, 1, 1, 1, 1)}
		if !checkHolds(t, g, uneven, api.Part{I: 2, Ys: []api.Nat{nat.Of(4), nat.Of(7), nat.Of(127)}}) {
			t.Errorf("rows of other lengths by %x do not hold", g.P())
		}
		for _, row := range [][]api.Nat{nil, slices.Repeat(of(1), 8)} {
			if checkHolds(t, g, api.Matrix{of(1), row}, api.Part{I: 2, Ys: of(0, 0)}) {
				t.Errorf("a row of %d by %x holds", len(row), g.P())
			}
		}
		if !checkHolds(t, g, slices.Repeat(api.Matrix{of(1)}, 40), api.Part{I: 7, Ys: make([]api.Nat, 40)}) {
			t.Errorf("40 rows by %x do not hold", g.P())
		}
	}
}

// Mx1: products that are right, though commitments are no members.
func TestHoldsNoMembers(t *testing.T) {
	for _, g := range manyGroups(t) {
		minus := func(a api.Nat) api.Nat { return fromBig(new(big.Int).Sub(toBig(g.P()), toBig(a))) }
		polys := [][]api.Nat{of(1, 2, 3), of(4, 5, 6)}
		for k := range polys {
			m := committed(g, polys)
			m[k][0], m[k][1] = minus(m[k][0]), minus(m[k][1])
			for _, p := range allParts(g, polys) {
				if checkHolds(t, g, m, p) {
					t.Errorf("%x of %x by %x holds", p, m, g.P())
				}
			}
		}
	}
}

// Mx1: in a small field, of each server's shares just one holds.
func TestJustOneHolds(t *testing.T) {
	g := least(t)
	polys := [][]api.Nat{of(7, 300, 1), of(0, 0, 520)}
	m := committed(g, polys)
	for _, p := range allParts(g, polys) {
		for k := range 2 {
			for y := range 2 * 521 {
				other := api.Part{I: p.I, Ys: slices.Clone(p.Ys)}
				other.Ys[k] = nat.Of(y)
				if holds := matrix.Holds(g, m, other); holds != (nat.Of(y) == p.Ys[k]) {
					t.Errorf("%x: %t", other, holds)
				}
			}
		}
	}
}

// Mx2: all numbers of numbers, for one liar and two.
func TestDeal(t *testing.T) {
	r := rand.New(rand.NewPCG(16, 4))
	for _, g := range []*group.Group{least(t), given(t, group.Least()), given(t, group.Great()), greatest(t)} {
		for liars := 1; liars <= 2; liars++ {
			for count := 1; count <= 25; count++ {
				_, m, l := dealt(t, g, r, liars, count)
				if len(m) != count || len(m[count-1]) != liars+1 || len(l) != 3*liars+1 || !checkMay(t, g, liars, m) {
					t.Errorf("%d numbers, %d liars by %x: %x, %x", count, liars, g.P(), m, l)
				}
			}
		}
	}
}

// Mx2: numbers, and random ones, at the edges: those that are not in the field are refused, wherever they stand.
func TestDealEdges(t *testing.T) {
	for _, g := range manyGroups(t) {
		for _, a := range edges(g) {
			for liars := 1; liars <= 2; liars++ {
				for k := range 2 + 2*liars {
					list := of(1, 2, 3, 4, 5, 6)[:2+2*liars]
					list[k] = a
					_, _, e := checkDeal(t, g, liars, list[:2], list[2:])
					if (e == api.OK) != below(a, g.Q()) {
						t.Errorf("%x for %d by %x: %d", list, liars, g.Q(), e)
					}
				}
			}
		}
	}
}

// Mx2: numbers of liars, of numbers, and of random ones that may not be.
func TestDealRefused(t *testing.T) {
	for _, g := range []*group.Group{least(t), given(t, group.Great())} {
		for liars := -2; liars <= 4; liars++ {
			for _, count := range []int{0, 1, 2, 3, 24, 25, 26, 27} {
				for random := range 56 {
					if random > 5 && random != liars*count && random != count && random != 2*count {
						continue
					}
					m, l, e := checkDeal(t, g, liars, slices.Repeat(of(3), count), slices.Repeat(of(4), random))
					right := (liars == 1 || liars == 2) && count >= 1 && count <= 25 && random == liars*count
					if (e == api.OK) != right || !right && (len(m) != 0 || len(l) != 0) {
						t.Errorf("%d numbers, %d random ones, %d liars: %d", count, random, liars, e)
					}
				}
			}
		}
		for _, liars := range []int{256 + 1, 1<<32 + 1, 1<<63 - 1, 1 << 62, api.MinInt, api.MinInt + 1} {
			for count := range 5 {
				for random := range 9 {
					if m, l, e := matrix.Deal(g, liars, make([]api.Nat, count), make([]api.Nat, random)); len(m) != 0 || len(l) != 0 || e != api.ErrArg {
						t.Errorf("%d numbers, %d random ones, %d liars: %d", count, random, liars, e)
					}
				}
			}
		}
		many := make([]api.Nat, 1<<16)
		for _, count := range []int{256 + 1, 1<<15 + 1} {
			if _, _, e := matrix.Deal(g, 1, many[:count], many[:count]); e != api.ErrArg {
				t.Errorf("%d numbers: %d", count, e)
			}
		}
	}
}

// Mx2: in a small field, all numbers with all random ones: each makes the line of just these.
func TestDealAll(t *testing.T) {
	g := least(t)
	var powers []api.Nat
	for k := range 521 {
		powers = append(powers, member(g, nat.Of(k)))
	}
	for number := range 521 {
		for random := number % 7; random < 521; random += 7 {
			m, l, e := matrix.Deal(g, 1, of(number), of(random))
			if e != api.OK || len(m) != 1 || !slices.Equal(m[0], []api.Nat{powers[number], powers[random]}) || len(l) != 4 {
				t.Fatalf("%d and %d: %x, %x, %d", number, random, m, l, e)
			}
			for k, p := range l {
				if y := (number + random*(k+1)) % 521; p.I != k+1 || !slices.Equal(p.Ys, of(y)) {
					t.Errorf("%d and %d: %x", number, random, p)
				}
			}
		}
	}
}

// Mx3, Mx4: of all choices of servers that tell the truth, in any order, with all others lying, the polynomials come back, if these are enough.
func TestRecoverChoices(t *testing.T) {
	r := rand.New(rand.NewPCG(16, 5))
	for _, g := range manyGroups(t) {
		for liars := 1; liars <= 2; liars++ {
			polys, m, l := dealt(t, g, r, liars, 2)
			for which := range 1 << len(l) {
				told, count := copyParts(l), 0
				for k := range told {
					if which>>k&1 == 0 {
						told[k] = lie(g, r, told[k])
					} else {
						count++
					}
				}
				for _, list := range [][]api.Part{some(told, which), mixed(r, told)} {
					back, e := matrix.Recover(g, liars, m, list)
					if count <= liars {
						if len(back) != 0 || e != api.ErrNone {
							t.Errorf("of %x by %x: %x, %d", list, g.Q(), back, e)
						}
					} else if !sameRows(back, polys) || e != api.OK {
						t.Errorf("of %x by %x: %x, %d, not %x", list, g.Q(), back, e, polys)
					}
				}
			}
		}
	}
}

// Mx3: servers beyond those that are dealt to count, if their shares hold; those beyond MaxServers do not.
func TestRecoverNumbers(t *testing.T) {
	for _, g := range []*group.Group{least(t), given(t, group.Great())} {
		polys := [][]api.Nat{of(5, 2), of(0, 9)}
		m := committed(g, polys)
		every := allParts(g, polys)
		for i := range every {
			for j := range every {
				back, e := checkRecover(t, g, 1, m, []api.Part{every[i], every[j]})
				if i != j && (!sameRows(back, polys) || e != api.OK) || i == j && e != api.ErrNone {
					t.Errorf("of %d and %d by %x: %x, %d", i+1, j+1, g.Q(), back, e)
				}
			}
			for _, other := range []int{0, -1, 8, 9, 256 + 1, 521 + 1, 1<<32 + 1, api.MaxInt, api.MinInt} {
				if back, e := checkRecover(t, g, 1, m, []api.Part{every[i], wantShare(g, polys, other)}); len(back) != 0 || e != api.ErrNone {
					t.Errorf("of %d and %d by %x: %x, %d", i+1, other, g.Q(), back, e)
				}
			}
		}
	}
}

// Mx3: a part that is there many times counts once, and those that lie under its number change nothing.
func TestRecoverTwice(t *testing.T) {
	r := rand.New(rand.NewPCG(16, 6))
	for _, g := range manyGroups(t) {
		for liars := 1; liars <= 2; liars++ {
			polys, m, l := dealt(t, g, r, liars, 3)
			few := slices.Repeat(l[:liars], 5)
			for _, p := range l {
				few = append(few, lie(g, r, p))
			}
			few = mixed(r, few)
			if back, e := checkRecover(t, g, liars, m, few); len(back) != 0 || e != api.ErrNone {
				t.Errorf("of %x by %x: %x, %d", few, g.Q(), back, e)
			}
			enough := mixed(r, append(few, l[len(l)-1], l[len(l)-1]))
			if back, e := checkRecover(t, g, liars, m, enough); !sameRows(back, polys) || e != api.OK {
				t.Errorf("of %x by %x: %x, %d", enough, g.Q(), back, e)
			}
		}
	}
}

// Mx3: parts that are right in some rows alone do not count, even if each row has enough that are.
func TestRecoverHalfRight(t *testing.T) {
	r := rand.New(rand.NewPCG(16, 7))
	for _, g := range manyGroups(t) {
		for liars := 1; liars <= 2; liars++ {
			_, m, l := dealt(t, g, r, liars, 3)
			half := copyParts(l)
			for k := range half {
				half[k].Ys[k%3][0] ^= 1
			}
			for n := range liars + 1 {
				list := append(copyParts(half), l[:n]...)
				if back, e := checkRecover(t, g, liars, m, list); len(back) != 0 || e != api.ErrNone {
					t.Errorf("of %x by %x: %x, %d", list, g.Q(), back, e)
				}
			}
		}
	}
}

// Mx3: polynomials of fewer coefficients have zeros behind.
func TestRecoverZeros(t *testing.T) {
	for _, g := range manyGroups(t) {
		for _, polys := range [][][]api.Nat{{of(0, 0, 0)}, {of(5, 0, 0), of(0, 5, 0), of(0, 0, 5)}, {of(1, 2, 0)}, {of(0, 0), of(3, 0)}, {of(0, 4)}} {
			liars := len(polys[0]) - 1
			m, l := committed(g, polys), allParts(g, polys)
			for k := range 7 - liars {
				if back, e := checkRecover(t, g, liars, m, l[k:k+liars+1]); !sameRows(back, polys) || e != api.OK {
					t.Errorf("%x by %x came back as %x, %d", polys, g.Q(), back, e)
				}
			}
		}
	}
}

// Mx3: matrices of as many rows as there may be.
func TestRecoverMany(t *testing.T) {
	r := rand.New(rand.NewPCG(16, 8))
	for _, g := range []*group.Group{least(t), given(t, group.Great()), greatest(t)} {
		for liars := 1; liars <= 2; liars++ {
			for _, count := range []int{1, 24, 25} {
				polys, m, l := dealt(t, g, r, liars, count)
				for k := range liars {
					l[2*k] = lie(g, r, l[2*k])
				}
				if back, e := checkRecover(t, g, liars, m, l); !sameRows(back, polys) || e != api.OK {
					t.Errorf("%x by %x came back as %x, %d", polys, g.Q(), back, e)
				}
			}
		}
	}
}

// Mx3: the truth behind many lies.
func TestRecoverLate(t *testing.T) {
	r := rand.New(rand.NewPCG(16, 9))
	g := given(t, group.Least())
	polys, m, l := dealt(t, g, r, 2, 2)
	var list []api.Part
	for k := range 1 << 10 {
		list = append(list, lie(g, r, l[k%7]))
	}
	if back, e := checkRecover(t, g, 2, m, list); len(back) != 0 || e != api.ErrNone {
		t.Errorf("of lies alone: %x, %d", back, e)
	}
	list = append(list, l[6], l[6], l[0], l[3])
	if back, e := checkRecover(t, g, 2, m, list); !sameRows(back, polys) || e != api.OK {
		t.Errorf("of the last ones: %x, %d", back, e)
	}
	if back, e := checkRecover(t, g, 2, m, list[:len(list)-1]); len(back) != 0 || e != api.ErrNone {
		t.Errorf("of one too few: %x, %d", back, e)
	}
}

// Mx3: numbers of liars, and matrices, that may not be are told ahead of parts that are too few.
func TestRecoverRefused(t *testing.T) {
	for _, g := range manyGroups(t) {
		polys := [][]api.Nat{of(5, 2, 1), of(0, 9, 3)}
		m, l := committed(g, polys), allParts(g, polys)
		for _, list := range [][]api.Part{nil, l[:1], l} {
			for _, liars := range []int{-1, 0, 1, 3, 4, 6, 7, 256 + 2, 1<<32 + 2, api.MaxInt, api.MinInt} {
				if back, e := matrix.Recover(g, liars, m, list); len(back) != 0 || e != api.ErrArg {
					t.Errorf("for %d by %x: %x, %d", liars, g.P(), back, e)
				}
			}
			for k := range 6 {
				for _, a := range strange(g) {
					wrong := copyOf(m)
					wrong[k/3][k%3] = a
					if back, e := matrix.Recover(g, 2, wrong, list); len(back) != 0 || e != api.ErrArg {
						t.Errorf("of %x by %x: %x, %d", wrong, g.P(), back, e)
					}
				}
			}
			for _, wrong := range []api.Matrix{nil, {}, {nil}, {m[0], m[1][:2]}, {m[0][:2], m[1]}, {m[0], append(m[1][:3:3], one)}, slices.Repeat(m, 13)} {
				if back, e := checkRecover(t, g, 2, wrong, list); len(back) != 0 || e != api.ErrArg {
					t.Errorf("of %d rows by %x: %x, %d", len(wrong), g.P(), back, e)
				}
			}
		}
		if back, e := checkRecover(t, g, 2, m, nil); len(back) != 0 || e != api.ErrNone {
			t.Errorf("of none by %x: %x, %d", g.P(), back, e)
		}
	}
}

// Mx3, Mx4: of matrices that nobody dealt, but that may be, all who ask learn the same, whichever shares they saw.
func TestRecoverNotDealt(t *testing.T) {
	r := rand.New(rand.NewPCG(16, 10))
	g := least(t)
	for liars := 1; liars <= 2; liars++ {
		for range 5 {
			logs := make([][]api.Nat, 2)
			for k := range logs {
				for range liars + 1 {
					logs[k] = append(logs[k], nat.Of(r.IntN(521)))
				}
			}
			m, l := committed(g, logs), allParts(g, logs)
			for which := range 1 << api.MaxServers {
				list := mixed(r, some(l, which))
				back, e := checkRecover(t, g, liars, m, list)
				if len(list) > liars && (!sameRows(back, logs) || e != api.OK) {
					t.Errorf("of %x: %x, %d, not %x", list, back, e, logs)
				}
			}
		}
	}
}

// Mx4: what is dealt, and comes back, gives each server its part again.
func TestRoundTrip(t *testing.T) {
	r := rand.New(rand.NewPCG(16, 11))
	for _, g := range manyGroups(t) {
		for liars := 1; liars <= 2; liars++ {
			_, m, l := dealt(t, g, r, liars, 1+r.IntN(5))
			taken, e := matrix.Take(matrix.Bytes(m))
			if e != api.OK || !sameRows(taken, m) || matrix.Digest(taken) != matrix.Digest(m) {
				t.Fatalf("%x by %x is taken as %x, %d", m, g.P(), taken, e)
			}
			told := copyParts(l)
			for k := range liars {
				told[k] = lie(g, r, told[k])
			}
			polys, e := matrix.Recover(g, liars, taken, mixed(r, told))
			if e != api.OK {
				t.Fatalf("%x by %x does not come back: %d", m, g.P(), e)
			}
			for _, p := range l {
				if again := matrix.Share(g, polys, p.I); !sameParts([]api.Part{again}, []api.Part{p}) {
					t.Errorf("%x by %x is given as %x", p, g.Q(), again)
				}
			}
		}
	}
}

// Mx3: polynomials of all lengths, and numbers of all kinds, those below 0 too.
func TestShare(t *testing.T) {
	r := rand.New(rand.NewPCG(16, 12))
	for _, g := range manyGroups(t) {
		draw := drawer(g, r)
		for count := range 5 {
			polys := make([][]api.Nat, count)
			for k := range polys {
				for range r.IntN(9) {
					polys[k] = append(polys[k], draw())
				}
			}
			for i := -10; i <= 10; i++ {
				checkShare(t, g, polys, i)
			}
			for _, i := range []int{520, 521, 522, -520, -521, -522, 1 << 32, -1 << 32, 1966023127, -1966023127, -1966023128, api.MaxInt, api.MaxInt - 1, api.MinInt, api.MinInt + 1} {
				checkShare(t, g, polys, i)
			}
		}
		checkShare(t, g, [][]api.Nat{edges(g), nil, {}, of(0, 0), {g.Q(), g.Q()}, {all, all, all}}, 7)
		checkShare(t, g, [][]api.Nat{{zero, one}, {one, one}, {zero, zero, one}}, -1)
	}
}

// Mx3: at 0 a polynomial is its first coefficient; of none there are no shares.
func TestShareByHeart(t *testing.T) {
	for _, g := range manyGroups(t) {
		if p := matrix.Share(g, [][]api.Nat{of(5, 2), of(9)}, 0); p.I != 0 || !slices.Equal(p.Ys, of(5, 9)) {
			t.Errorf("at 0 by %x: %x", g.Q(), p)
		}
		if p := matrix.Share(g, [][]api.Nat{of(0, 1), of(5, 2)}, -1); p.I != -1 || !slices.Equal(p.Ys, []api.Nat{less(g, 1), nat.Of(3)}) {
			t.Errorf("at -1 by %x: %x", g.Q(), p)
		}
		for _, i := range []int{-3, 0, 4, api.MaxInt} {
			for _, polys := range [][][]api.Nat{nil, {}} {
				if p := matrix.Share(g, polys, i); p.I != i || len(p.Ys) != 0 {
					t.Errorf("of none at %d by %x: %x", i, g.Q(), p)
				}
			}
		}
		many := slices.Repeat([][]api.Nat{of(1, 1)}, 1<<10)
		if p := matrix.Share(g, many, 6); p.I != 6 || !slices.Equal(p.Ys, slices.Repeat(of(7), 1<<10)) {
			t.Errorf("of many by %x: %x", g.Q(), p)
		}
	}
}

// Mx1, Mx2, Mx3: without a group nothing is told, but bytes and digests.
func TestWithoutAGroup(t *testing.T) {
	refused, _ := group.New(api.Params{})
	for _, g := range []*group.Group{nil, {}, new(group.Group), refused} {
		for liars := -1; liars <= 3; liars++ {
			for _, m := range []api.Matrix{nil, {}, {nil}, {of(0, 0)}, {of(1, 1)}, {of(1, 1, 1)}, {of(1, 1), of(1, 1)}} {
				if matrix.May(g, liars, m) {
					t.Errorf("%x may be for %d", m, liars)
				}
				for _, l := range [][]api.Part{nil, {{I: 1}}, partsFrom(of(0), of(0), of(0))} {
					if polys, e := matrix.Recover(g, liars, m, l); len(polys) != 0 || e != api.ErrArg {
						t.Errorf("Recover(%d, %x, %x) = %x, %d", liars, m, l, polys, e)
					}
				}
				for i := -1; i <= 8; i++ {
					for _, ys := range [][]api.Nat{nil, {}, of(0), of(1), of(0, 0)} {
						if matrix.Holds(g, m, api.Part{I: i, Ys: ys}) {
							t.Errorf("%x holds of %x", ys, m)
						}
					}
				}
			}
			for count := range 3 {
				if m, l, e := matrix.Deal(g, liars, make([]api.Nat, count), make([]api.Nat, max(0, count*liars))); len(m) != 0 || len(l) != 0 || e != api.ErrArg {
					t.Errorf("Deal of %d for %d = %x, %x, %d", count, liars, m, l, e)
				}
			}
		}
		for _, polys := range [][][]api.Nat{nil, {}, {nil}, {of(1)}, {of(5, 2), of(1)}} {
			for i := -1; i <= 8; i++ {
				if p := matrix.Share(g, polys, i); p.I != 0 || len(p.Ys) != 0 {
					t.Errorf("Share(%x, %d) = %x", polys, i, p)
				}
			}
		}
	}
}

// Mx1, Mx2, Mx3: what lies behind a list's end is neither read nor changed.
func TestRoomBehind(t *testing.T) {
	g := given(t, group.Great())
	polys := [][]api.Nat{of(1, 2, 3, 4), of(5, 6, 7, 8), of(9, 10, 11, 12)}
	m, l := committed(g, polys), allParts(g, polys)
	numbers, random := of(1, 2, 3, 4, 5), of(6, 7, 8, 9, 10, 11, 12)
	l[5].I, l[6], m[2][3], numbers[4], random[6] = 99, l[0], all, all, all
	wasM, wasL, wasNumbers, wasRandom, wasPolys := copyOf(m), copyParts(l), slices.Clone(numbers), slices.Clone(random), copyOf(polys)
	for rows := range 3 {
		for columns := range 5 {
			short, few := slices.Clone(m), slices.Clone(polys)
			for k := range short {
				short[k], few[k] = short[k][:columns], few[k][:columns]
			}
			short, few = short[:rows], few[:rows]
			checkBytes(t, short)
			checkShare(t, g, few, 3)
			for n := range 6 {
				var list []api.Part
				for _, p := range allParts(g, few)[:n] {
					p.Ys = append(p.Ys, all, all)[:rows]
					list = append(list, p)
				}
				for _, p := range list {
					checkHolds(t, g, short, p)
				}
				for liars := range 3 {
					checkMay(t, g, liars, short)
					checkRecover(t, g, liars, short, append(list, l...)[:n])
					checkRecover(t, g, liars, short, l[:n])
					checkDeal(t, g, liars, numbers[:rows], random[:n])
				}
			}
		}
	}
	if !sameRows(m, wasM) || !sameParts(l, wasL) || !slices.Equal(numbers, wasNumbers) || !slices.Equal(random, wasRandom) || !sameRows(polys, wasPolys) {
		t.Errorf("%x, %x, %x, %x or %x was changed", m, l, numbers, random, polys)
	}
}

// fill writes over all of a list's memory, behind its end too.
func fill[T any](l []T, with T) {
	for k := range l[:cap(l)] {
		l[:cap(l)][k] = with
	}
}

// Mx1, Mx2, Mx3: what is told is new memory: writing there shows neither in what was handed in, nor in what is told beside it, nor later.
func TestNewMemory(t *testing.T) {
	for _, g := range manyGroups(t) {
		numbers, random := of(5, 9), of(1, 2, 3, 4)
		for range 2 {
			m, l, _ := checkDeal(t, g, 2, numbers, random)
			s := matrix.Bytes(m)
			taken, _ := matrix.Take(s)
			polys, _ := checkRecover(t, g, 2, m, l)
			p := matrix.Share(g, polys, 3)
			fillRows(t, m, [][]api.Nat{members(g, 5, 1, 2), members(g, 9, 3, 4)})
			fillRows(t, taken, [][]api.Nat{members(g, 5, 1, 2), members(g, 9, 3, 4)})
			fillRows(t, polys, [][]api.Nat{of(5, 1, 2), of(9, 3, 4)})
			fillRows(t, [][]api.Nat{p.Ys}, [][]api.Nat{of(26, 54)})
			fillRows(t, [][]api.Nat{l[0].Ys, l[1].Ys, l[2].Ys, l[3].Ys, l[4].Ys, l[5].Ys, l[6].Ys},
				[][]api.Nat{of(8, 16), of(15, 31), of(26, 54), of(41, 85), of(60, 124), of(83, 171), of(110, 226)})
			fill(l, api.Part{})
			if !slices.Equal(numbers, of(5, 9)) || !slices.Equal(random, of(1, 2, 3, 4)) {
				t.Fatalf("%x or %x is shared", numbers, random)
			}
		}
	}
}

// fillRows writes over each row, and looks whether it was right until then.
func fillRows(t *testing.T, m, right [][]api.Nat) {
	t.Helper()
	for k := range m {
		if !slices.Equal(m[k], right[k]) {
			t.Fatalf("the row %d of %x is shared: not %x", k, m, right[k])
		}
		fill(m[k], all)
	}
	fill(m, nil)
}

// naturalsOf are naturals out of bytes, of which some are members, some at the edges, and some small.
func naturalsOf(g *group.Group, bytes []byte, high uint64) []api.Nat {
	list := append(edges(g), strange(g)...)
	var l []api.Nat
	for k, b := range bytes {
		switch a := (api.Nat{uint64(b), high, high, uint64(b)}); b % 4 {
		case 0:
			l = append(l, list[(k*7+int(b)/4)%len(list)])
		case 1:
			l = append(l, a)
		case 2:
			l = append(l, nat.Of(int(b)/4))
		default:
			l = append(l, member(g, a))
		}
	}
	return l
}

// inField are naturals, by Q.
func inField(g *group.Group, l []api.Nat) []api.Nat {
	var list []api.Nat
	for _, a := range l {
		list = append(list, fromBig(new(big.Int).Mod(toBig(a), toBig(g.Q()))))
	}
	return list
}

// FuzzMatrix looks for bytes, matrices and parts at which something goes wrong.
func FuzzMatrix(f *testing.F) {
	f.Add(0, "", []byte{}, []byte{}, 0, uint64(0))
	f.Add(1, "\x01\x02\x01\x05\x00", []byte{5, 2, 3, 7, 11, 15}, []byte{2, 3, 4}, 1, uint64(7))
	f.Add(3, "\x02\x01\x02\x01\x00\x01\xff", []byte{4, 5, 6, 7, 3, 3, 3, 3, 3}, []byte{8, 7, 6, 0xd5, 4, 3, 0xe2}, 2, uint64(ones))
	f.Add(10, "\x01\x01\x01\x00", []byte{1, 6, 0}, []byte{0xd2, 0xe3, 0xf4, 1}, 3, uint64(1))
	groups := manyGroups(f)
	f.Fuzz(func(t *testing.T, which int, s string, first, second []byte, n int, high uint64) {
		g := groups[uint(which)%uint(len(groups))]
		checkTake(t, s)
		numbers := naturalsOf(g, first[:min(len(first), 30)], high)
		columns := int(uint(n)%8) + 1
		m := api.Matrix{}
		for row := range slices.Chunk(numbers, columns) {
			m = append(m, row)
		}
		checkBytes(t, m)
		checkMay(t, g, n, m)
		checkMay(t, g, columns-1, m)
		checkShare(t, g, m, n)
		half := len(numbers) / 2
		checkDeal(t, g, n, numbers[:half], numbers[half:])
		liars := int(uint(n)%2) + 1
		count := min(25, len(numbers)/(liars+1))
		if count == 0 {
			return
		}
		below := inField(g, numbers)
		dealt, l, e := checkDeal(t, g, liars, below[:count], below[count:count*(liars+1)])
		if e != api.OK {
			t.Fatalf("%x for %d by %x: %d", below, liars, g.Q(), e)
		}
		polys := polysOf(liars, below[:count], below[count:])
		list := partsOf(g, polys, l, second[:min(len(second), 20)])
		if back, e := checkRecover(t, g, liars, dealt, list); e == api.OK && !sameRows(back, polys) {
			t.Errorf("%x by %x came back as %x", polys, g.Q(), back)
		}
		if back, e := matrix.Recover(g, liars, dealt, append(list, l[liars:2*liars+1]...)); e != api.OK || !sameRows(back, polys) {
			t.Errorf("%x by %x came back as %x, %d", polys, g.Q(), back, e)
		}
	})
}

// partsOf are parts out of bytes: some as they were dealt, some with one share that is another one, some of other numbers.
func partsOf(g *group.Group, polys [][]api.Nat, l []api.Part, bytes []byte) []api.Part {
	list := edges(g)
	var parts []api.Part
	for k, b := range bytes {
		p := copyParts(l)[int(b)%len(l)]
		switch b / 64 {
		case 0:
			p.Ys[k%len(p.Ys)] = list[int(b)%len(list)]
		case 1:
			p = wantShare(g, polys, int(b)%12-2)
		case 2:
			p.I = int(b)%12 - 2
		}
		parts = append(parts, p)
	}
	return parts
}
