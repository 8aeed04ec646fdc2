package chunk_test

import (
	"math/big"
	"math/rand/v2"
	"slices"
	"strings"
	"testing"

	"sacristy/api"
	"sacristy/chunk"
	"sacristy/group"
	"sacristy/nat"
)

const ones = 1<<64 - 1

var zero = api.Nat{}

// toBig is what the limbs mean, told without the packages that are tested.
func toBig(a api.Nat) *big.Int {
	sum := new(big.Int)
	for k := api.Limbs - 1; k >= 0; k-- {
		sum.Lsh(sum, api.LimbBits)
		sum.Add(sum, new(big.Int).SetUint64(a[k]))
	}
	return sum
}

// fromBig is a number below 2^256, as limbs.
func fromBig(n *big.Int) api.Nat {
	rest := new(big.Int).Set(n)
	var a api.Nat
	for k := range a {
		a[k] = new(big.Int).And(rest, new(big.Int).SetUint64(ones)).Uint64()
		rest.Rsh(rest, api.LimbBits)
	}
	return a
}

// shows tells whether a is layer 4's witness that n is a prime, if f is.
func shows(n, f *big.Int, a int) bool {
	one := big.NewInt(1)
	less := new(big.Int).Sub(n, one)
	often := new(big.Int).Quo(less, f)
	witness := big.NewInt(int64(a))
	if new(big.Int).Exp(witness, less, n).Cmp(one) != 0 {
		return false
	}
	root := new(big.Int).Exp(witness, often, n)
	return new(big.Int).GCD(nil, nil, n, root.Sub(root, one)).Cmp(one) == 0
}

// nextLink is the link of a prime from about so many bits on that f makes; it has fewer than twice as many bits as f.
func nextLink(t testing.TB, f api.Nat, bits int) api.Link {
	t.Helper()
	bf := toBig(f)
	k := new(big.Int).Lsh(big.NewInt(1), uint(bits-1))
	k.Quo(k, bf)
	for range 1 << 14 {
		n := new(big.Int).Mul(k, bf)
		k.Add(k, big.NewInt(1))
		n.Add(n, big.NewInt(1))
		if n.BitLen() < bits || n.Bit(0) == 0 {
			continue
		}
		if n.BitLen() > api.MaxBits || n.Cmp(new(big.Int).Mul(bf, bf)) >= 0 {
			break
		}
		for a := 2; n.ProbablyPrime(0) && a < 100; a++ {
			if shows(n, bf, a) {
				return api.Link{N: fromBig(n), A: a}
			}
		}
	}
	t.Fatalf("%x makes no prime of %d bits", f, bits)
	return api.Link{}
}

// groupOf is a group of a chain from a small prime on, a link for each of bits.
func groupOf(t testing.TB, first int, bits ...int) *group.Group {
	t.Helper()
	l := []api.Link{{N: nat.Of(first)}}
	for _, b := range bits {
		l = append(l, nextLink(t, l[len(l)-1].N, b))
	}
	p, q := toBig(l[len(l)-1].N), toBig(l[len(l)-2].N)
	often := new(big.Int).Sub(p, big.NewInt(1))
	often.Quo(often, q)
	for n := int64(2); n < 100; n++ {
		spawner := new(big.Int).Exp(big.NewInt(n), often, p)
		if g, e := group.New(api.Params{Chain: l, G: fromBig(spawner)}); e == api.OK {
			return g
		}
	}
	t.Fatalf("nothing spawns a subgroup by %x", l)
	return nil
}

// given is a group whose parameters are right.
func given(t testing.TB, p api.Params) *group.Group {
	t.Helper()
	g, e := group.New(p)
	if e != api.OK {
		t.Fatalf("New(%x) = %d", p, e)
	}
	return g
}

// greatest is a group whose Q has 255 bits, as many as it may have: P is twice Q, and 1.
func greatest(t testing.TB) *group.Group {
	t.Helper()
	digits := []string{"65521", "1074282317", "576460780807958477", "649037107316878326410637878470751",
		"803469022129495137770981108568449884878255012103186407123779",
		"57896044618595922064977028148842967554791797017574897235716261396257767476009",
		"115792089237191844129954056297685935109583594035149794471432522792515534952019"}
	p := api.Params{G: nat.Of(4)}
	for k := range digits {
		n, _ := new(big.Int).SetString(digits[k], 10)
		p.Chain = append(p.Chain, api.Link{N: fromBig(n), A: 2 * min(k, 1)})
	}
	return given(t, p)
}

// madeGroup is a group, and how many bytes a number of it holds.
type madeGroup struct {
	*group.Group
	size int
}

// manyGroups are groups whose Q ends a bit below a byte or a limb, at it, and a bit above; some hold the longest value in one number; and those that are given.
func manyGroups(t testing.TB) []madeGroup {
	t.Helper()
	list := []madeGroup{
		{groupOf(t, 521, 11), 1},
		{groupOf(t, 16411, 17), 1},
		{groupOf(t, 65521, 17), 1},
		{groupOf(t, 521, 17, 20), 2},
		{groupOf(t, 65521, 24, 30), 2},
		{groupOf(t, 65521, 25, 30), 3},
		{given(t, group.Least()), 3},
		{given(t, group.Other()), 3},
		{groupOf(t, 65521, 24, 32, 40), 3},
		{groupOf(t, 65521, 24, 33, 40), 4},
		{groupOf(t, 65521, 31, 41, 60), 5},
		{groupOf(t, 65521, 31, 50, 60), 6},
		{groupOf(t, 65521, 31, 50, 64, 74), 7},
		{groupOf(t, 65521, 31, 50, 65, 75), 8},
		{groupOf(t, 65521, 31, 60, 97, 110), 12},
		{groupOf(t, 65521, 31, 60, 105, 120), 13},
		{given(t, group.Great()), 14},
		{groupOf(t, 65521, 31, 60, 110, 128, 140), 15},
		{groupOf(t, 65521, 31, 60, 110, 129, 140), 16},
		{groupOf(t, 65521, 31, 60, 110, 192, 200), 23},
		{groupOf(t, 65521, 31, 60, 110, 193, 200), 24},
		{groupOf(t, 65521, 31, 60, 110, 200, 210), 24},
		{groupOf(t, 65521, 31, 60, 110, 201, 210), 25},
		{groupOf(t, 65521, 31, 60, 110, 209, 220), 26},
		{groupOf(t, 65521, 31, 60, 110, 200, 248, 256), 30},
		{groupOf(t, 65521, 31, 60, 110, 200, 249, 256), 31},
		{greatest(t), 31},
	}
	for _, g := range list {
		if (toBig(g.Q()).BitLen()-1)/8 != g.size {
			t.Fatalf("a number below %x does not hold %d bytes", g.Q(), g.size)
		}
	}
	return list
}

// wantPut are the numbers of a value that is not too long, by the chapter's words.
func (g madeGroup) wantPut(value string, there bool) []api.Nat {
	all := []byte{0}
	if there {
		all = append([]byte{byte(len(value) + 1)}, value...)
	}
	for len(all)%g.size != 0 {
		all = append(all, 0)
	}
	var list []api.Nat
	for ; len(all) > 0; all = all[g.size:] {
		list = append(list, fromBig(new(big.Int).SetBytes(all[:g.size])))
	}
	return list
}

// wantTake is the value of numbers, by the chapter's words: told byte by byte, and not by what is put.
func (g madeGroup) wantTake(l []api.Nat) (string, bool, api.Errno) {
	var all []byte
	for _, n := range l {
		if toBig(n).BitLen() > 8*g.size {
			return "", false, api.ErrBad
		}
		all = append(all, toBig(n).FillBytes(make([]byte, g.size))...)
	}
	if len(all) == 0 || all[0] > api.MaxValue+1 {
		return "", false, api.ErrBad
	}
	// The bytes of none are one byte, and so are those of the empty value.
	need := max(1, int(all[0]))
	if len(all) < need || len(all)-need >= g.size {
		return "", false, api.ErrBad
	}
	for _, b := range all[need:] {
		if b != 0 {
			return "", false, api.ErrBad
		}
	}
	return string(all[1:need]), all[0] > 0, api.OK
}

// checkPut looks at what a value is put as, and that it is taken as it was.
func checkPut(t *testing.T, g madeGroup, value string, there bool) {
	t.Helper()
	want, wantErr := g.wantPut(value, there), api.OK
	if there && len(value) > api.MaxValue {
		want, wantErr = nil, api.ErrTooLarge
	}
	got, e := chunk.Put(g.Group, value, there)
	if !slices.Equal(got, want) || e != wantErr {
		t.Fatalf("Put(%x, %v) below %x = %x, %d, not %x, %d", value, there, g.Q(), got, e, want, wantErr)
	}
	if e != api.OK {
		return
	}
	wantValue, bytes := "", 0
	if there {
		wantValue, bytes = value, len(value)
	}
	if n := chunk.Count(g.Group, bytes); n != len(want) {
		t.Fatalf("Count(%d) below %x = %d, not %d", bytes, g.Q(), n, len(want))
	}
	if s, is, e := chunk.Take(g.Group, got); s != wantValue || is != there || e != api.OK {
		t.Fatalf("what was put of %x, %v below %x is taken as %x, %v, %d", value, there, g.Q(), s, is, e)
	}
}

// checkTake looks at what numbers are taken as, and that a value is put as these numbers.
func checkTake(t *testing.T, g madeGroup, l []api.Nat) {
	t.Helper()
	was := slices.Clone(l)
	want, wantThere, wantErr := g.wantTake(l)
	s, there, e := chunk.Take(g.Group, l)
	if s != want || there != wantThere || e != wantErr {
		t.Fatalf("Take(%x) below %x = %x, %v, %d, not %x, %v, %d", l, g.Q(), s, there, e, want, wantThere, wantErr)
	}
	if !slices.Equal(l, was) {
		t.Fatalf("Take changed %x to %x", was, l)
	}
	if e != api.OK {
		return
	}
	if back, e := chunk.Put(g.Group, s, there); !slices.Equal(back, l) || e != api.OK {
		t.Fatalf("what was taken of %x below %x is put as %x, %d", l, g.Q(), back, e)
	}
}

// text are random bytes, of which many are 0, 1, or the greatest.
func text(r *rand.Rand, n int) string {
	b := make([]byte, n)
	for k := range b {
		b[k] = byte(r.Uint32())
		if r.IntN(2) == 0 {
			b[k] = []byte{0, 1, 0xff}[r.IntN(3)]
		}
	}
	return string(b)
}

// values are texts of each number of bytes that a value may have, and of a few more.
func values(r *rand.Rand) []string {
	var list []string
	for n := range api.MaxValue + 4 {
		for _, one := range []string{"\x00", "\x01", "x", "\x7f", "\x80", "\xff"} {
			list = append(list, strings.Repeat(one, n))
		}
		for range 6 {
			list = append(list, text(r, n))
		}
	}
	return list
}

// withoutGroups are those that New did not give.
func withoutGroups() []*group.Group {
	refused, _ := group.New(api.Params{})
	return []*group.Group{nil, {}, new(group.Group), refused}
}

// Ck1: the chapter's example, and one beside it.
func TestExample(t *testing.T) {
	g := given(t, group.Least())
	if l, e := chunk.Put(g, "ab", true); !slices.Equal(l, []api.Nat{nat.Of(0x036162)}) || e != api.OK {
		t.Errorf("Put(ab) = %x, %d", l, e)
	}
	if l, e := chunk.Put(g, "abcdef", true); !slices.Equal(l, []api.Nat{nat.Of(0x076162), nat.Of(0x636465), nat.Of(0x660000)}) || e != api.OK {
		t.Errorf("Put(abcdef) = %x, %d", l, e)
	}
}

// Ck1: as many numbers as hold a byte and these, in each group, for each number of bytes that a value has; and none for others.
func TestCount(t *testing.T) {
	for _, g := range manyGroups(t) {
		for n := range api.MaxValue + 1 {
			want := 1
			for want*g.size < n+1 {
				want++
			}
			if got := chunk.Count(g.Group, n); got != want {
				t.Errorf("Count(%d) of size %d = %d, not %d", n, g.size, got, want)
			}
		}
		for _, n := range []int{-1, -2, -g.size, -g.size - 1, -100, api.MinInt + 1, api.MinInt, api.MaxValue + 1, api.MaxValue + 2, 100, 255, 256, 1 << 32, api.MaxInt - 1, api.MaxInt} {
			if got := chunk.Count(g.Group, n); got != 0 {
				t.Errorf("Count(%d) of size %d = %d", n, g.size, got)
			}
		}
	}
}

// Ck1: no value has more numbers than the limit says, and in the least groups the longest one has as many.
func TestMaxChunks(t *testing.T) {
	for _, g := range manyGroups(t) {
		got := chunk.Count(g.Group, api.MaxValue)
		if got > api.MaxChunks || g.size == 1 && got != api.MaxChunks {
			t.Errorf("the longest value has %d numbers in a group of size %d", got, g.size)
		}
	}
}

// Ck1, Ck3: values of all numbers of bytes, and those that are too long, in each group; there, and not there.
func TestPut(t *testing.T) {
	r := rand.New(rand.NewPCG(11, 1))
	for _, g := range manyGroups(t) {
		for _, s := range values(r) {
			checkPut(t, g, s, true)
			checkPut(t, g, s, false)
		}
	}
}

// Ck1: values that are far too long: refused if they are there, and else without weight.
func TestPutTooLarge(t *testing.T) {
	for _, g := range manyGroups(t) {
		for _, n := range []int{api.MaxValue + 1, 255, 256, 257, 1 << 16, 1 << 20} {
			s := strings.Repeat("\x00", n)
			if l, e := chunk.Put(g.Group, s, true); len(l) != 0 || e != api.ErrTooLarge {
				t.Errorf("Put of %d bytes = %x, %d", n, l, e)
			}
			if l, e := chunk.Put(g.Group, s, false); !slices.Equal(l, []api.Nat{zero}) || e != api.OK {
				t.Errorf("Put of %d bytes that are not there = %x, %d", n, l, e)
			}
		}
	}
}

// Ck1: each number is below Q.
func TestPutBelowQ(t *testing.T) {
	r := rand.New(rand.NewPCG(11, 2))
	for _, g := range manyGroups(t) {
		for _, s := range values(r) {
			l, _ := chunk.Put(g.Group, s, true)
			for _, n := range l {
				if toBig(n).Cmp(toBig(g.Q())) >= 0 {
					t.Fatalf("%x of %x is not below %x", n, s, g.Q())
				}
			}
		}
	}
}

// Ck1, Ck2: without a group, ahead of all else.
func TestWithoutAGroup(t *testing.T) {
	for _, g := range withoutGroups() {
		for _, n := range []int{api.MinInt, -1, 0, 1, api.MaxValue, api.MaxValue + 1, api.MaxInt} {
			if got := chunk.Count(g, n); got != 0 {
				t.Errorf("Count(%d) = %d", n, got)
			}
		}
		for _, s := range []string{"", "a", strings.Repeat("x", api.MaxValue), strings.Repeat("x", api.MaxValue+1)} {
			for _, there := range []bool{false, true} {
				if l, e := chunk.Put(g, s, there); len(l) != 0 || e != api.ErrArg {
					t.Errorf("Put(%q, %v) = %x, %d", s, there, l, e)
				}
			}
		}
		for _, l := range [][]api.Nat{nil, {}, {zero}, {nat.Of(1)}, {nat.Of(0x036162)}, {{ones, ones, ones, ones}}, make([]api.Nat, 100)} {
			if s, there, e := chunk.Take(g, l); s != "" || there || e != api.ErrArg {
				t.Errorf("Take(%x) = %q, %v, %d", l, s, there, e)
			}
		}
	}
}

// Ck2: none, and the empty value, are not the same; and no numbers are neither.
func TestNoneAndEmpty(t *testing.T) {
	for _, g := range manyGroups(t) {
		if s, there, e := chunk.Take(g.Group, []api.Nat{zero}); s != "" || there || e != api.OK {
			t.Errorf("none is taken as %q, %v, %d", s, there, e)
		}
		one := fromBig(new(big.Int).Lsh(big.NewInt(1), uint(8*(g.size-1))))
		if s, there, e := chunk.Take(g.Group, []api.Nat{one}); s != "" || !there || e != api.OK {
			t.Errorf("the empty value is taken as %q, %v, %d", s, there, e)
		}
		for _, l := range [][]api.Nat{nil, {}} {
			if s, there, e := chunk.Take(g.Group, l); s != "" || there || e != api.ErrBad {
				t.Errorf("no numbers are taken as %q, %v, %d", s, there, e)
			}
		}
	}
}

// Ck2, Ck3: all lists of up to two numbers below Q, and some beyond, in a group of size 1.
func TestAllShortLists(t *testing.T) {
	g := manyGroups(t)[0]
	const beyond = 600
	for a := range beyond {
		checkTake(t, g, []api.Nat{nat.Of(a)})
		for b := range beyond {
			l := []api.Nat{nat.Of(a), nat.Of(b)}
			_, _, e := chunk.Take(g.Group, l)
			if (e == api.OK) != (a == 2 && b < 256) || e != api.OK && e != api.ErrBad {
				t.Fatalf("Take(%d, %d) = %d", a, b, e)
			}
		}
	}
}

// Ck2, Ck3: all numbers of two bytes, and some beyond, alone, in groups of size 2: no others lead to a value than those that are put.
func TestAllNumbersOfTwoBytes(t *testing.T) {
	for _, g := range manyGroups(t) {
		if g.size != 2 {
			continue
		}
		good := 0
		for n := range 1<<16 + 1<<10 {
			l := []api.Nat{nat.Of(n)}
			checkTake(t, g, l)
			if _, _, e := chunk.Take(g.Group, l); e == api.OK {
				good++
			}
		}
		// None, the empty value, and the values of one byte.
		if good != 2+256 {
			t.Errorf("%d numbers lead to a value", good)
		}
	}
}

// Ck2, Ck3: what was put with one byte of it changed: the first one to any other one.
func TestOneByteChanged(t *testing.T) {
	r := rand.New(rand.NewPCG(11, 3))
	for _, g := range manyGroups(t) {
		for n := range api.MaxValue + 1 {
			l := g.wantPut(text(r, n), true)
			for at := range l {
				for k := range g.size {
					was := l[at]
					for b := range uint64(256) {
						// Of those behind the first one it only matters whether they are 0.
						if b > 1 && b < 254 && (at > 0 || k < g.size-1) {
							continue
						}
						l[at][k/8] = was[k/8]&^(0xff<<(k%8*8)) | b<<(k%8*8)
						checkTake(t, g, l)
					}
					l[at] = was
				}
			}
		}
	}
}

// Ck2: a number that is greater than a part: by a bit above, by Q, and the greatest ones.
func TestTooGreat(t *testing.T) {
	r := rand.New(rand.NewPCG(11, 4))
	for _, g := range manyGroups(t) {
		q := toBig(g.Q())
		for n := range api.MaxValue + 1 {
			l := g.wantPut(text(r, n), true)
			for at := range l {
				was := l[at]
				wrong := []api.Nat{g.Q(), {ones, ones, ones, ones}, fromBig(new(big.Int).Lsh(big.NewInt(1), uint(8*g.size)))}
				for k := 8 * g.size; k < api.MaxBits; k++ {
					wrong = append(wrong, fromBig(new(big.Int).SetBit(toBig(was), k, 1)))
				}
				if sum := new(big.Int).Add(toBig(was), q); sum.BitLen() <= api.MaxBits {
					wrong = append(wrong, fromBig(sum))
				}
				for _, l[at] = range wrong {
					if s, there, e := chunk.Take(g.Group, l); s != "" || there || e != api.ErrBad {
						t.Fatalf("Take(%x) below %x = %x, %v, %d", l, g.Q(), s, there, e)
					}
				}
				l[at] = was
			}
		}
	}
}

// Ck2: one number too few, and one too many, whatever it is; a few more; and those out of turn.
func TestWrongNumber(t *testing.T) {
	r := rand.New(rand.NewPCG(11, 5))
	for _, g := range manyGroups(t) {
		for n := range api.MaxValue + 1 {
			l := g.wantPut(text(r, n), true)
			for _, more := range []api.Nat{zero, nat.Of(1), l[0], l[len(l)-1], g.Q()} {
				longer := append(slices.Clone(l), more)
				if s, there, e := chunk.Take(g.Group, longer); s != "" || there || e != api.ErrBad {
					t.Fatalf("Take(%x) below %x = %x, %v, %d", longer, g.Q(), s, there, e)
				}
				checkTake(t, g, append([]api.Nat{more}, l...))
			}
			for k := range l {
				if s, there, e := chunk.Take(g.Group, l[:k]); s != "" || there || e != api.ErrBad {
					t.Fatalf("Take(%x) below %x = %x, %v, %d", l[:k], g.Q(), s, there, e)
				}
				checkTake(t, g, l[k:])
			}
			slices.Reverse(l)
			checkTake(t, g, l)
		}
		for n := 2; n < 60; n++ {
			if s, there, e := chunk.Take(g.Group, make([]api.Nat, n)); s != "" || there || e != api.ErrBad {
				t.Fatalf("Take of %d zeros = %x, %v, %d", n, s, there, e)
			}
		}
	}
}

// Ck2: a first byte that is more than one above the longest value, with as many bytes behind it as it says.
func TestFirstByteTooGreat(t *testing.T) {
	for _, g := range manyGroups(t) {
		for first := api.MaxValue; first < 256; first++ {
			all := make([]byte, (first+g.size-1)/g.size*g.size)
			all[0] = byte(first)
			var l []api.Nat
			for ; len(all) > 0; all = all[g.size:] {
				l = append(l, fromBig(new(big.Int).SetBytes(all[:g.size])))
			}
			want := api.ErrBad
			if first <= api.MaxValue+1 {
				want = api.OK
			}
			if s, there, e := chunk.Take(g.Group, l); e != want || there != (e == api.OK) || e != api.OK && s != "" {
				t.Errorf("Take of a first byte %d in size %d = %x, %v, %d", first, g.size, s, there, e)
			}
			checkTake(t, g, l)
		}
	}
}

// Ck2: a long list is refused, however it begins.
func TestLongLists(t *testing.T) {
	for _, g := range manyGroups(t) {
		for _, n := range []int{api.MaxChunks + 1, 100, 256, 1 << 16, 1 << 20} {
			l := make([]api.Nat, n)
			copy(l, g.wantPut(strings.Repeat("x", api.MaxValue), true))
			if s, there, e := chunk.Take(g.Group, l); s != "" || there || e != api.ErrBad {
				t.Errorf("Take of %d numbers = %x, %v, %d", n, s, there, e)
			}
		}
	}
}

// Ck3: values that are not the same, and none, have not the same numbers.
func TestNoTwoTheSame(t *testing.T) {
	r := rand.New(rand.NewPCG(11, 6))
	for _, g := range manyGroups(t) {
		seen := map[string]string{}
		none, _ := chunk.Put(g.Group, "", false)
		seen[told(none)] = "none"
		for _, s := range values(r) {
			if len(s) > api.MaxValue {
				continue
			}
			l, _ := chunk.Put(g.Group, s, true)
			if other, ok := seen[told(l)]; ok && other != "="+s {
				t.Fatalf("%q and %q have the same numbers %x", other, s, l)
			}
			seen[told(l)] = "=" + s
		}
	}
}

// told is a list as a text.
func told(l []api.Nat) string {
	var b strings.Builder
	for _, n := range l {
		b.WriteString(toBig(n).String())
		b.WriteString(" ")
	}
	return b.String()
}

// Ck2: what lies behind a list's end is neither read nor changed.
func TestRoomBehind(t *testing.T) {
	r := rand.New(rand.NewPCG(11, 7))
	for _, g := range manyGroups(t) {
		for n := range api.MaxValue + 1 {
			s := text(r, n)
			l := append(g.wantPut(s, true), zero, g.Q(), nat.Of(7))
			was := slices.Clone(l)
			for end := range len(l) {
				checkTake(t, g, l[:end])
			}
			if !slices.Equal(l, was) {
				t.Fatalf("%x became %x", was, l)
			}
		}
	}
}

// Ck1: a list is new memory: what is done to it does not show in a later one.
func TestNewMemory(t *testing.T) {
	for _, g := range manyGroups(t) {
		for _, there := range []bool{false, true} {
			want := g.wantPut("twelve bytes", there)
			first, _ := chunk.Put(g.Group, "twelve bytes", there)
			second, _ := chunk.Put(g.Group, "twelve bytes", there)
			for k := range first[:cap(first)] {
				first[:cap(first)][k] = nat.Of(9)
			}
			third, _ := chunk.Put(g.Group, "twelve bytes", there)
			if !slices.Equal(second, want) || !slices.Equal(third, want) {
				t.Error("a list that was changed shows in another one")
			}
		}
	}
}

// Ck2: a value that was taken stays, whatever is done to its numbers.
func TestTakenStays(t *testing.T) {
	for _, g := range manyGroups(t) {
		l := g.wantPut("twelve bytes", true)
		s, _, _ := chunk.Take(g.Group, l)
		clear(l)
		if s != "twelve bytes" {
			t.Errorf("the value became %q", s)
		}
	}
}

// Ck2, Ck3: random lists, of numbers that are mostly parts.
func TestRandomLists(t *testing.T) {
	r := rand.New(rand.NewPCG(11, 8))
	for _, g := range manyGroups(t) {
		for range 3000 {
			checkTake(t, g, g.listOf(text(r, r.IntN(40)), r.IntN(20)))
		}
	}
}

// listOf are numbers of bytes, part by part; the one at great, if there is one, is lifted above a part.
func (g madeGroup) listOf(s string, great int) []api.Nat {
	var l []api.Nat
	for b := []byte(s); len(b) > 0; b = b[min(g.size, len(b)):] {
		l = append(l, fromBig(new(big.Int).SetBytes(b[:min(g.size, len(b))])))
	}
	if great >= 0 && great < len(l) {
		l[great] = fromBig(new(big.Int).SetBit(toBig(l[great]), 8*g.size, 1))
	}
	return l
}

// FuzzChunk looks for values, and lists of numbers, at which they go wrong.
func FuzzChunk(f *testing.F) {
	f.Add(0, "", true, -1)
	f.Add(6, "\x03ab", true, 0)
	f.Add(6, "\x04abc\x00\x00", false, -1)
	f.Add(16, "\x19"+strings.Repeat("x", api.MaxValue)+"\x00\x00\x00", true, -1)
	f.Add(26, strings.Repeat("\xff", 31), true, 0)
	groups := manyGroups(f)
	f.Fuzz(func(t *testing.T, which int, s string, there bool, great int) {
		g := groups[uint(which)%uint(len(groups))]
		checkPut(t, g, s, there)
		checkTake(t, g, g.listOf(s, great))
		want := 0
		if great >= 0 && great <= api.MaxValue {
			want = len(g.wantPut(strings.Repeat("x", great), true))
		}
		if got := chunk.Count(g.Group, great); got != want {
			t.Errorf("Count(%d) = %d, not %d", great, got, want)
		}
	})
}
