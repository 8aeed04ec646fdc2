package tape_test

import (
	"math/big"
	"math/rand/v2"
	"slices"
	"strings"
	"testing"

	"sacristy/api"
	"sacristy/group"
	"sacristy/nat"
	"sacristy/tape"
)

const ones = 1<<64 - 1

var zero = api.Nat{}

// toBig is what the limbs mean, told without the packages that are tested.
func toBig(a api.Nat) *big.Int {
	sum := new(big.Int)
	for k := api.Limbs - 1; k >= 0; k-- {
		sum.Lsh(sum, api.LimbBits)
		sum.Add(sum, new(big.Int).SetUint64(a[k]))
	}
	return sum
}

// fromBig is a number below 2^256, as limbs.
func fromBig(n *big.Int) api.Nat {
	rest := new(big.Int).Set(n)
	var a api.Nat
	for k := range a {
		a[k] = new(big.Int).And(rest, new(big.Int).SetUint64(ones)).Uint64()
		rest.Rsh(rest, api.LimbBits)
	}
	return a
}

// shows tells whether a is layer 4's witness that n is a prime, if f is.
func shows(n, f *big.Int, a int) bool {
	one := big.NewInt(1)
	less := new(big.Int).Sub(n, one)
	often := new(big.Int).Quo(less, f)
	witness := big.NewInt(int64(a))
	if new(big.Int).Exp(witness, less, n).Cmp(one) != 0 {
		return false
	}
	root := new(big.Int).Exp(witness, often, n)
	return new(big.Int).GCD(nil, nil, n, root.Sub(root, one)).Cmp(one) == 0
}

// nextLink is the link of a prime from about so many bits on that f makes; it has fewer than twice as many bits as f.
func nextLink(t testing.TB, f api.Nat, bits int) api.Link {
	t.Helper()
	bf := toBig(f)
	k := new(big.Int).Lsh(big.NewInt(1), uint(bits-1))
	k.Quo(k, bf)
	for range 1 << 14 {
		n := new(big.Int).Mul(k, bf)
		k.Add(k, big.NewInt(1))
		n.Add(n, big.NewInt(1))
		if n.BitLen() < bits || n.Bit(0) == 0 {
			continue
		}
		if n.BitLen() > api.MaxBits || n.Cmp(new(big.Int).Mul(bf, bf)) >= 0 {
			break
		}
		for a := 2; n.ProbablyPrime(0) && a < 100; a++ {
			if shows(n, bf, a) {
				return api.Link{N: fromBig(n), A: a}
			}
		}
	}
	t.Fatalf("%x makes no prime of %d bits", f, bits)
	return api.Link{}
}

// groupOf is a group of a chain from a small prime on, a link for each of bits.
func groupOf(t testing.TB, first int, bits ...int) *group.Group {
	t.Helper()
	l := []api.Link{{N: nat.Of(first)}}
	for _, b := range bits {
		l = append(l, nextLink(t, l[len(l)-1].N, b))
	}
	p, q := toBig(l[len(l)-1].N), toBig(l[len(l)-2].N)
	often := new(big.Int).Sub(p, big.NewInt(1))
	often.Quo(often, q)
	for n := int64(2); n < 100; n++ {
		spawner := new(big.Int).Exp(big.NewInt(n), often, p)
		if g, e := group.New(api.Params{Chain: l, G: fromBig(spawner)}); e == api.OK {
			return g
		}
	}
	t.Fatalf("nothing spawns a subgroup by %x", l)
	return nil
}

// given is a group whose parameters are right.
func given(t testing.TB, p api.Params) *group.Group {
	t.Helper()
	g, e := group.New(p)
	if e != api.OK {
		t.Fatalf("New(%x) = %d", p, e)
	}
	return g
}

// greatest is a group whose Q has 255 bits, as many as it may have: P is twice Q, and 1.
func greatest(t testing.TB) *group.Group {
	t.Helper()
	digits := []string{"65521", "1074282317", "576460780807958477", "649037107316878326410637878470751",
		"803469022129495137770981108568449884878255012103186407123779",
		"57896044618595922064977028148842967554791797017574897235716261396257767476009",
		"115792089237191844129954056297685935109583594035149794471432522792515534952019"}
	p := api.Params{G: nat.Of(4)}
	for k := range digits {
		n, _ := new(big.Int).SetString(digits[k], 10)
		p.Chain = append(p.Chain, api.Link{N: fromBig(n), A: 2 * min(k, 1)})
	}
	return given(t, p)
}

// madeGroup is a group, and how many bits its Q has.
type madeGroup struct {
	*group.Group
	bits int
}

// manyGroups are groups whose Q ends a bit below a byte or a limb, at it, and a bit above; and those that are given.
func manyGroups(t testing.TB) []madeGroup {
	t.Helper()
	list := []madeGroup{
		{groupOf(t, 521, 11), 10},
		{groupOf(t, 16411, 17), 15},
		{groupOf(t, 32771, 17), 16},
		{groupOf(t, 65521, 17), 16},
		{groupOf(t, 521, 17, 20), 17},
		{groupOf(t, 65521, 23, 30), 23},
		{groupOf(t, 65521, 24, 30), 24},
		{groupOf(t, 65521, 25, 30), 25},
		{given(t, group.Least()), 31},
		{given(t, group.Other()), 31},
		{groupOf(t, 65521, 24, 32, 40), 32},
		{groupOf(t, 65521, 24, 33, 40), 33},
		{groupOf(t, 65521, 31, 50, 63, 74), 63},
		{groupOf(t, 65521, 31, 50, 64, 74), 64},
		{groupOf(t, 65521, 31, 50, 65, 75), 65},
		{given(t, group.Great()), 113},
		{groupOf(t, 65521, 31, 60, 110, 128, 140), 128},
		{groupOf(t, 65521, 31, 60, 110, 129, 140), 129},
		{groupOf(t, 65521, 31, 60, 110, 192, 200), 192},
		{groupOf(t, 65521, 31, 60, 110, 193, 200), 193},
		{groupOf(t, 65521, 31, 60, 110, 200, 247, 256), 247},
		{groupOf(t, 65521, 31, 60, 110, 200, 248, 256), 248},
		{groupOf(t, 65521, 31, 60, 110, 200, 249, 256), 249},
		{greatest(t), 255},
	}
	for _, g := range list {
		if toBig(g.Q()).BitLen() != g.bits {
			t.Fatalf("Q %x has not %d bits", g.Q(), g.bits)
		}
	}
	return list
}

// width is how many bytes a try takes.
func (g madeGroup) width() int {
	width := 1
	for 8*width < g.bits {
		width++
	}
	return width
}

// wantTry is the number of a try's bytes, by the chapter's words.
func (g madeGroup) wantTry(s string) *big.Int {
	b := []byte(s)
	kept := g.bits - 8*(len(b)-1)
	b[0] &= byte(1<<kept - 1)
	return new(big.Int).SetBytes(b)
}

// wantDraws are as many draws of a text as there are, but at most n; and what is left behind the last one.
func (g madeGroup) wantDraws(s string, n int) ([]api.Nat, string) {
	var list []api.Nat
	left := s
	for at := 0; at+g.width() <= len(s) && len(list) < n; at += g.width() {
		tried := g.wantTry(s[at : at+g.width()])
		if tried.Cmp(toBig(g.Q())) < 0 {
			list = append(list, fromBig(tried))
			left = s[at+g.width():]
		}
	}
	return list, left
}

// tryOf are the bytes of a try: a number that Q's bits hold, and above it, in the first byte, what is left out.
func (g madeGroup) tryOf(n *big.Int, above int) string {
	b := n.FillBytes(make([]byte, g.width()))
	kept := g.bits - 8*(g.width()-1)
	b[0] |= byte(above << kept)
	return string(b)
}

// spare is how many ways there are to fill the bits that are left out.
func (g madeGroup) spare() int {
	return 1 << (8*g.width() - g.bits)
}

// numbers are those about 0, Q, the bytes' ends, and the greatest that Q's bits hold: those below Q, and the others.
func (g madeGroup) numbers() (below, beyond []*big.Int) {
	q := toBig(g.Q())
	top := new(big.Int).Lsh(big.NewInt(1), uint(g.bits))
	list := []*big.Int{new(big.Int).Rsh(q, 1), new(big.Int).Rsh(top, 1)}
	for d := int64(-3); d <= 3; d++ {
		list = append(list, big.NewInt(d), new(big.Int).Add(q, big.NewInt(d)), new(big.Int).Add(top, big.NewInt(d)))
	}
	for k := 8; k < g.bits; k += 8 {
		at := new(big.Int).Lsh(big.NewInt(1), uint(k))
		list = append(list, at, new(big.Int).Sub(at, big.NewInt(1)))
	}
	for _, n := range list {
		if n.Sign() < 0 || n.Cmp(top) >= 0 {
			continue
		}
		if n.Cmp(q) < 0 {
			below = append(below, n)
		} else {
			beyond = append(beyond, n)
		}
	}
	return below, beyond
}

// newTape is a tape of a text that is not too long.
func newTape(t testing.TB, s string) *tape.Tape {
	t.Helper()
	x, e := tape.New(s)
	if x == nil || e != api.OK {
		t.Fatalf("New of %d bytes = %v, %d", len(s), x, e)
	}
	return x
}

// checkRest looks at what is left, and takes it.
func checkRest(t *testing.T, x *tape.Tape, want string) {
	t.Helper()
	if got := x.Left(); got != len(want) {
		t.Errorf("Left() = %d, not %d", got, len(want))
	}
	got, e := x.Bytes(x.Left())
	if got != want || e != api.OK || x.Left() != 0 {
		t.Errorf("the rest is %x, %d, not %x; %d left", got, e, want, x.Left())
	}
}

// checkDraw looks at one draw of a text, and at what is left of it.
func checkDraw(t *testing.T, g madeGroup, s string) {
	t.Helper()
	list, left := g.wantDraws(s, 1)
	want, wantErr := zero, api.ErrNoMore
	if len(list) == 1 {
		want, wantErr = list[0], api.OK
	}
	x := newTape(t, s)
	if got, e := x.Draw(g.Group); got != want || e != wantErr {
		t.Errorf("Draw of %x below %x = %x, %d, not %x, %d", s, g.Q(), got, e, want, wantErr)
	}
	checkRest(t, x, left)
}

// checkDraws looks at n draws of a text, and at what is left of it.
func checkDraws(t *testing.T, g madeGroup, s string, n int) {
	t.Helper()
	want, left := g.wantDraws(s, n)
	wantErr := api.OK
	if len(want) < n {
		want, left, wantErr = nil, s, api.ErrNoMore
	}
	x := newTape(t, s)
	if got, e := x.Draws(g.Group, n); !slices.Equal(got, want) || e != wantErr {
		t.Errorf("%d draws of %d bytes below %x: %d of them, %d, not %d, %d", n, len(s), g.Q(), len(got), e, len(want), wantErr)
	}
	checkRest(t, x, left)
}

// text are random bytes.
func text(r *rand.Rand, n int) string {
	b := make([]byte, n)
	for k := range b {
		b[k] = byte(r.Uint32())
	}
	return string(b)
}

// Ta1: a tape of each number of bytes that may be, and none of more.
func TestNew(t *testing.T) {
	r := rand.New(rand.NewPCG(10, 1))
	for _, n := range []int{0, 1, 2, 255, 256, 1000, api.MaxTape - 1, api.MaxTape} {
		s := text(r, n)
		checkRest(t, newTape(t, s), s)
	}
	for _, n := range []int{api.MaxTape + 1, api.MaxTape + 2, 2 * api.MaxTape, 1 << 20} {
		if x, e := tape.New(strings.Repeat("\x00", n)); x != nil || e != api.ErrFull {
			t.Errorf("New of %d bytes = %v, %d", n, x, e)
		}
	}
}

// Ta1: bytes are taken one behind the other, however many at a time.
func TestBytes(t *testing.T) {
	r := rand.New(rand.NewPCG(10, 2))
	for range 200 {
		s := text(r, r.IntN(300))
		x := newTape(t, s)
		for at := 0; at < len(s); {
			n := r.IntN(min(20, len(s)-at) + 1)
			if got, e := x.Bytes(n); got != s[at:at+n] || e != api.OK {
				t.Fatalf("%d bytes from %d on = %x, %d", n, at, got, e)
			}
			at += n
			if x.Left() != len(s)-at {
				t.Fatalf("%d left of %d behind %d", x.Left(), len(s), at)
			}
		}
		checkRest(t, x, "")
	}
}

// Ta1: how many may be asked for, at each number that is left; what is refused takes nothing.
func TestBytesEdges(t *testing.T) {
	const s = "\x00\xffbytes\x00 that are left\xff"
	for taken := range len(s) + 1 {
		left := len(s) - taken
		x := newTape(t, s)
		if got, e := x.Bytes(taken); got != s[:taken] || e != api.OK {
			t.Errorf("Bytes(%d) = %x, %d", taken, got, e)
		}
		for _, n := range []int{-1, -2, -left, -left - 1, api.MinInt + 1, api.MinInt} {
			if got, e := x.Bytes(n); n < 0 && (got != "" || e != api.ErrArg) {
				t.Errorf("Bytes(%d) of %d = %x, %d", n, left, got, e)
			}
		}
		for _, n := range []int{left + 1, left + 2, 1 << 31, 1 << 32, api.MaxInt - 1, api.MaxInt} {
			if got, e := x.Bytes(n); got != "" || e != api.ErrNoMore {
				t.Errorf("Bytes(%d) of %d = %x, %d", n, left, got, e)
			}
		}
		if got, e := x.Bytes(0); got != "" || e != api.OK {
			t.Errorf("Bytes(0) of %d = %x, %d", left, got, e)
		}
		checkRest(t, x, s[taken:])
	}
}

// Ta1: tapes of one text do not hang on each other.
func TestTapesApart(t *testing.T) {
	g := manyGroups(t)[0]
	const s = "\x00\x01\x00\x02\x00\x03"
	a, b := newTape(t, s), newTape(t, s)
	if got, e := a.Bytes(1); got != "\x00" || e != api.OK {
		t.Error(got, e)
	}
	if got, e := b.Draws(g.Group, 2); !slices.Equal(got, []api.Nat{nat.Of(1), nat.Of(2)}) || e != api.OK {
		t.Error(got, e)
	}
	checkRest(t, a, s[1:])
	checkRest(t, b, s[4:])
}

// Ta2: the chapter's example: two bytes a try, and of the first one two bits; Q is 521, in bytes 02 09.
func TestExample(t *testing.T) {
	g := groupOf(t, 521, 11)
	cases := []struct {
		s    string
		want int
		e    api.Errno
		left int
	}{
		{"\x00\x00", 0, api.OK, 0},
		{"\x00\x01z", 1, api.OK, 1},
		{"\x01\x00zz", 256, api.OK, 2},
		{"\x02\x08", 520, api.OK, 0},
		{"\x02\x09\x00\x05", 5, api.OK, 0},
		{"\xfe\x08\x00\x05", 520, api.OK, 2},
		{"\x04\x01", 1, api.OK, 0},
		{"\xfc\x00\x00\x05", 0, api.OK, 2},
		{"\x03\xff\xff\xff\x02\x09\x01\x02\x03", 258, api.OK, 1},
		{"\x03\xff\xff\xff\x02\x09\x01", 0, api.ErrNoMore, 7},
		// The second byte of a try that is not below Q does not begin the next one.
		{"\x03\x00\x07\x00\x00", 0, api.ErrNoMore, 5},
	}
	for _, c := range cases {
		x := newTape(t, c.s)
		if got, e := x.Draw(g); got != nat.Of(c.want) || e != c.e || x.Left() != c.left {
			t.Errorf("Draw of %x = %x, %d; %d left", c.s, got, e, x.Left())
		}
	}
}

// Ta2: a draw of one try: numbers at the edges, whatever stands in the bits that are left out.
func TestDrawEdges(t *testing.T) {
	for _, g := range manyGroups(t) {
		below, beyond := g.numbers()
		for above := range g.spare() {
			for _, n := range below {
				x := newTape(t, g.tryOf(n, above)+"rest")
				if got, e := x.Draw(g.Group); got != fromBig(n) || e != api.OK {
					t.Errorf("Draw of %x below %x = %x, %d", n, g.Q(), got, e)
				}
				checkRest(t, x, "rest")
			}
			for _, n := range beyond {
				s := g.tryOf(n, above)
				x := newTape(t, s)
				if got, e := x.Draw(g.Group); got != zero || e != api.ErrNoMore {
					t.Errorf("Draw of %x below %x = %x, %d", n, g.Q(), got, e)
				}
				checkRest(t, x, s)
				checkDraw(t, g, s+g.tryOf(below[0], above)+"rest")
			}
		}
	}
}

// Ta2: the draw is the first try below Q, behind any number of others, which are taken, too.
func TestDrawBehindOthers(t *testing.T) {
	for _, g := range manyGroups(t) {
		below, beyond := g.numbers()
		var s string
		for often := range 20 {
			for k, n := range below {
				x := newTape(t, s+g.tryOf(n, k%g.spare())+"\x00")
				if got, e := x.Draw(g.Group); got != fromBig(n) || e != api.OK {
					t.Errorf("Draw of %x below %x, behind %d, = %x, %d", n, g.Q(), often, got, e)
				}
				checkRest(t, x, "\x00")
			}
			s += g.tryOf(beyond[often%len(beyond)], often%g.spare())
		}
	}
}

// Ta2: a try takes all of its bytes: one fewer does not do, and none is taken.
func TestDrawTooFew(t *testing.T) {
	for _, g := range manyGroups(t) {
		_, beyond := g.numbers()
		for k := range g.width() {
			for _, ahead := range []string{"", g.tryOf(beyond[0], 0), strings.Repeat(g.tryOf(beyond[0], 0), 7)} {
				for _, one := range []string{"\x00", "\x01", "\xff"} {
					s := ahead + strings.Repeat(one, k)
					x := newTape(t, s)
					for range 2 {
						if got, e := x.Draw(g.Group); got != zero || e != api.ErrNoMore {
							t.Errorf("Draw of %x below %x = %x, %d", s, g.Q(), got, e)
						}
						if got, e := x.Draws(g.Group, 1); len(got) != 0 || e != api.ErrNoMore {
							t.Errorf("Draws of %x below %x = %x, %d", s, g.Q(), got, e)
						}
					}
					checkRest(t, x, s)
				}
			}
		}
	}
}

// Ta2: one after the other, to the tape's end, with random bytes.
func TestDrawnToTheEnd(t *testing.T) {
	r := rand.New(rand.NewPCG(10, 3))
	for _, g := range manyGroups(t) {
		for range 20 {
			s := text(r, r.IntN(500))
			want, left := g.wantDraws(s, len(s))
			x := newTape(t, s)
			for k := range want {
				if got, e := x.Draw(g.Group); got != want[k] || e != api.OK {
					t.Fatalf("the draw %d of %x below %x = %x, %d, not %x", k, s, g.Q(), got, e, want[k])
				}
			}
			if got, e := x.Draw(g.Group); got != zero || e != api.ErrNoMore {
				t.Errorf("a draw behind the last one = %x, %d", got, e)
			}
			checkRest(t, x, left)
		}
	}
}

// Ta2: any number of draws that there are, and one more.
func TestDraws(t *testing.T) {
	r := rand.New(rand.NewPCG(10, 4))
	for _, g := range manyGroups(t) {
		for range 5 {
			s := text(r, r.IntN(20*g.width()))
			list, _ := g.wantDraws(s, len(s))
			for n := range len(list) + 3 {
				checkDraws(t, g, s, n)
			}
		}
	}
}

// Ta2: a whole tape of draws, and as many as no tape has.
func TestDrawsOfAFullTape(t *testing.T) {
	r := rand.New(rand.NewPCG(10, 5))
	for _, g := range manyGroups(t) {
		for _, s := range []string{strings.Repeat("\x00", api.MaxTape), strings.Repeat("\xff", api.MaxTape), text(r, api.MaxTape)} {
			list, _ := g.wantDraws(s, len(s))
			for _, n := range []int{len(list), len(list) + 1, api.MaxTape, 1 << 31, 1 << 40, api.MaxInt - 1, api.MaxInt} {
				checkDraws(t, g, s, n)
			}
		}
	}
}

// Ta2: no draws need no bytes, and take none.
func TestNoDraws(t *testing.T) {
	for _, g := range manyGroups(t) {
		for _, s := range []string{"", "\x00", "\xff\xff\xff\xff\xff", strings.Repeat("\x00", 100)} {
			checkDraws(t, g, s, 0)
		}
	}
}

// Ta2: a number below 0 is refused ahead of what there is too little of, and nothing is taken.
func TestDrawsBelowZero(t *testing.T) {
	for _, g := range manyGroups(t) {
		for _, s := range []string{"", "\x00", strings.Repeat("\x00", 100)} {
			x := newTape(t, s)
			for _, n := range []int{-1, -2, -100, api.MinInt + 1, api.MinInt} {
				if got, e := x.Draws(g.Group, n); len(got) != 0 || e != api.ErrArg {
					t.Errorf("Draws(%d) = %x, %d", n, got, e)
				}
			}
			checkRest(t, x, s)
		}
	}
}

// Ta2: without a group nothing is drawn, and nothing is taken, not even by no draws, or of an empty tape.
func TestWithoutAGroup(t *testing.T) {
	refused, _ := group.New(api.Params{})
	for _, g := range []*group.Group{nil, {}, new(group.Group), refused} {
		for _, s := range []string{"", "\x00", strings.Repeat("\x00", 100)} {
			x := newTape(t, s)
			if got, e := x.Draw(g); got != zero || e != api.ErrArg {
				t.Errorf("Draw = %x, %d", got, e)
			}
			for _, n := range []int{api.MinInt, -1, 0, 1, 2, 1000, api.MaxInt} {
				if got, e := x.Draws(g, n); len(got) != 0 || e != api.ErrArg {
					t.Errorf("Draws(%d) = %x, %d", n, got, e)
				}
			}
			checkRest(t, x, s)
		}
	}
}

// Ta1, Ta2: a tape that New did not give tells nothing.
func TestTapesNotGiven(t *testing.T) {
	refused, _ := tape.New(strings.Repeat("x", api.MaxTape+1))
	g := given(t, group.Least())
	for _, x := range []*tape.Tape{nil, {}, new(tape.Tape), refused} {
		numbers := []int{api.MinInt, -1, 0, 1, 2, api.MaxInt}
		for range 2 {
			if got := x.Left(); got != 0 {
				t.Errorf("Left() = %d", got)
			}
			for _, n := range numbers {
				if got, e := x.Bytes(n); got != "" || e != api.ErrArg {
					t.Errorf("Bytes(%d) = %x, %d", n, got, e)
				}
			}
			for _, h := range []*group.Group{g, nil, {}} {
				if got, e := x.Draw(h); got != zero || e != api.ErrArg {
					t.Errorf("Draw = %x, %d", got, e)
				}
				for _, n := range numbers {
					if got, e := x.Draws(h, n); len(got) != 0 || e != api.ErrArg {
						t.Errorf("Draws(%d) = %x, %d", n, got, e)
					}
				}
			}
		}
	}
}

// Ta1, Ta2: groups, bytes and draws go by turns on one tape.
func TestByTurns(t *testing.T) {
	r := rand.New(rand.NewPCG(10, 6))
	groups := manyGroups(t)
	for range 20 {
		s := text(r, 5000)
		x := newTape(t, s)
		for x.Left() > 0 {
			g := groups[r.IntN(len(groups))]
			n := r.IntN(10)
			switch r.IntN(3) {
			case 0:
				want := s[:min(n, len(s))]
				if got, e := x.Bytes(len(want)); got != want || e != api.OK {
					t.Fatalf("Bytes(%d) = %x, %d, not %x", n, got, e, want)
				}
				s = s[len(want):]
			case 1:
				want, left := g.wantDraws(s, n)
				if got, e := x.Draws(g.Group, n); len(want) == n && (!slices.Equal(got, want) || e != api.OK) || len(want) < n && (len(got) != 0 || e != api.ErrNoMore) {
					t.Fatalf("Draws(%d) = %x, %d, not %x", n, got, e, want)
				}
				if len(want) == n {
					s = left
				}
			default:
				want, left := g.wantDraws(s, 1)
				if got, e := x.Draw(g.Group); len(want) == 1 && (got != want[0] || e != api.OK) || len(want) == 0 && (got != zero || e != api.ErrNoMore) {
					t.Fatalf("Draw = %x, %d, not %x", got, e, want)
				}
				s = left
			}
			if x.Left() != len(s) {
				t.Fatalf("%d left, not %d", x.Left(), len(s))
			}
		}
	}
}

// Ta2: a list of draws is new memory: what is done to it does not show in a later one.
func TestNewMemory(t *testing.T) {
	g := manyGroups(t)[0]
	s := strings.Repeat("\x00\x07", 40)
	x, y := newTape(t, s), newTape(t, s)
	first, _ := x.Draws(g.Group, 10)
	was := slices.Clone(first)
	second, _ := x.Draws(g.Group, 10)
	for k := range second[:cap(second)] {
		second[:cap(second)][k] = nat.Of(9)
	}
	if !slices.Equal(first, was) {
		t.Error("two lists share memory")
	}
	third, _ := x.Draws(g.Group, 10)
	again, _ := y.Draws(g.Group, 10)
	if !slices.Equal(third, was) || !slices.Equal(again, was) {
		t.Error("a list that was changed shows in a later one")
	}
}

// countAll draws of all the tries of two bytes, in order, and counts how often each number was drawn.
func countAll(t *testing.T, g madeGroup) map[api.Nat]int {
	t.Helper()
	var all strings.Builder
	for n := range 1 << 16 {
		all.WriteByte(byte(n >> 8))
		all.WriteByte(byte(n))
	}
	count := map[api.Nat]int{}
	for s := all.String(); s != ""; s = s[api.MaxTape:] {
		x := newTape(t, s[:api.MaxTape])
		for {
			n, e := x.Draw(g.Group)
			if e != api.OK {
				break
			}
			count[n]++
		}
	}
	return count
}

// Ta3: of all the tries of two bytes, each number below Q is drawn by as many, and no other one is drawn.
func TestAllTriesOfTwoBytes(t *testing.T) {
	for _, g := range manyGroups(t) {
		if g.width() != 2 {
			continue
		}
		q, _ := nat.Int(g.Q())
		count := countAll(t, g)
		if len(count) != q {
			t.Errorf("%d numbers are drawn below %d", len(count), q)
		}
		for n := range q {
			if count[nat.Of(n)] != g.spare() {
				t.Fatalf("%d is drawn below %d by %d tries, not %d", n, q, count[nat.Of(n)], g.spare())
			}
		}
	}
}

// Ta3: with more bytes: tries are the number that is drawn, and any bits above it; so are those of random numbers.
func TestTriesOfManyBytes(t *testing.T) {
	r := rand.New(rand.NewPCG(10, 7))
	for _, g := range manyGroups(t) {
		for range 20 {
			n := new(big.Int).SetBytes([]byte(text(r, g.width())))
			n.Mod(n, toBig(g.Q()))
			for above := range g.spare() {
				x := newTape(t, g.tryOf(n, above))
				if got, e := x.Draw(g.Group); got != fromBig(n) || e != api.OK || x.Left() != 0 {
					t.Errorf("Draw of %x below %x, with %x above, = %x, %d", n, g.Q(), above, got, e)
				}
			}
		}
	}
}

// Ta2: all is by the bytes: done again, it is the same.
func TestAgain(t *testing.T) {
	r := rand.New(rand.NewPCG(10, 8))
	for _, g := range manyGroups(t) {
		s := text(r, 40*g.width())
		x, y := newTape(t, s), newTape(t, s)
		for range 50 {
			a, e := x.Draw(g.Group)
			b, f := y.Draw(g.Group)
			if a != b || e != f || x.Left() != y.Left() {
				t.Fatalf("%x, %d is not %x, %d", a, e, b, f)
			}
		}
	}
}

// FuzzTape looks for bytes, and numbers of draws, at which a tape goes wrong.
func FuzzTape(f *testing.F) {
	f.Add(0, "", 0)
	f.Add(0, "\x03\x00\x07\x00\x00", 1)
	f.Add(1, "\xff\xff\xff\xff\x00\x00\x01\x02\x80\x00\x00\x03xyz", 2)
	f.Add(15, strings.Repeat("\x00\x80\x7f\xff", 40), 5)
	f.Add(23, strings.Repeat("\x80", 200), api.MaxInt)
	groups := manyGroups(f)
	f.Fuzz(func(t *testing.T, which int, s string, n int) {
		g := groups[uint(which)%uint(len(groups))]
		if len(s) > api.MaxTape {
			if x, e := tape.New(s); x != nil || e != api.ErrFull {
				t.Errorf("New of %d bytes: %d", len(s), e)
			}
			return
		}
		checkDraw(t, g, s)
		if n < 0 {
			x := newTape(t, s)
			if got, e := x.Draws(g.Group, n); len(got) != 0 || e != api.ErrArg {
				t.Errorf("Draws(%d) = %x, %d", n, got, e)
			}
			if got, e := x.Bytes(n); got != "" || e != api.ErrArg {
				t.Errorf("Bytes(%d) = %x, %d", n, got, e)
			}
			checkRest(t, x, s)
			return
		}
		checkDraws(t, g, s, n)
		if n <= len(s) {
			x := newTape(t, s)
			if got, e := x.Bytes(n); got != s[:n] || e != api.OK {
				t.Errorf("Bytes(%d) = %x, %d", n, got, e)
			}
			checkRest(t, x, s[n:])
		}
	})
}
