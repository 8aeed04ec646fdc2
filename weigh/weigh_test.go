package weigh_test

import (
	"cmp"
	"math"
	"math/big"
	"math/rand/v2"
	"slices"
	"testing"

	"sacristy/api"
	"sacristy/weigh"
)

const (
	leastExponent = -1022 // of the numbers whose first binary digit is 1
	digits        = 52    // binary ones, behind the first one
	steps         = 1 << digits
	infinityRank  = 2047 << digits
	sign          = 1 << 63
	least         = math.SmallestNonzeroFloat64
	greatest      = math.MaxFloat64
)

func below0() float64 { return math.Copysign(0, -1) }

// odd are some that are no numbers: both signs, those that are quiet and those that are not, with all kinds of bits behind.
func odd() []float64 {
	var l []float64
	for _, high := range []uint64{0x7ff << 52, 0xfff << 52} {
		for k := range digits {
			l = append(l, math.Float64frombits(high|1<<k), math.Float64frombits(high|(steps-1)>>k))
		}
	}
	return append(l, math.NaN(), -math.NaN(), math.Log(-1), math.Inf(1)-math.Inf(1), math.Inf(1)*0)
}

// wantRank is the rank, told without the float's bits: there are as many floats from a power of 2 to the next one, wherever it is, and as many of 0 and above below the first of these.
func wantRank(f float64) int {
	switch {
	case math.Signbit(f):
		return -1 - wantRank(-f)
	case f == 0:
		return 0
	case math.IsInf(f, 1):
		return infinityRank
	}
	part, exponent := math.Frexp(f) // part is from 1/2 on, and below 1
	if exponent-1 < leastExponent {
		return int(math.Ldexp(part, exponent-leastExponent+digits))
	}
	return (exponent-leastExponent)*steps + int(math.Ldexp(part, digits+1)) - steps
}

// wantCompare tells who stands ahead by the language's own order, and the words on what that one leaves open.
func wantCompare(a, b float64) int {
	place := func(f float64) int {
		switch {
		case math.IsNaN(f):
			return 3
		case f > 0:
			return 2
		case f == 0 && !math.Signbit(f):
			return 1
		case f == 0:
			return 0
		}
		return -1
	}
	switch {
	case place(a) != place(b):
		return cmp.Compare(place(a), place(b))
	case a < b:
		return -1
	case a > b:
		return 1
	}
	return 0
}

// wantNext is told by the library, which goes over 0 in one step less.
func wantNext(f float64) float64 {
	if f == 0 && math.Signbit(f) {
		return 0
	}
	return math.Nextafter(f, math.Inf(1))
}

func wantSteps(a, b float64) (int, bool) {
	if math.IsNaN(a) || math.IsNaN(b) {
		return 0, false
	}
	n := big.NewInt(int64(wantRank(b)))
	n.Sub(n, big.NewInt(int64(wantRank(a))))
	if !n.IsInt64() {
		return 0, false
	}
	return int(n.Int64()), true
}

// wantOrder takes, again and again, the first that none of those left stands ahead of.
func wantOrder(l []float64) []int {
	var order []int
	for range l {
		best := -1
		for k := range l {
			if !slices.Contains(order, k) && (best < 0 || wantCompare(l[k], l[best]) < 0) {
				best = k
			}
		}
		order = append(order, best)
	}
	return order
}

// same tells whether two floats are one, bit by bit.
func same(a, b float64) bool { return math.Float64bits(a) == math.Float64bits(b) }

func sameAll(a, b []float64) bool { return slices.EqualFunc(a, b, same) }

func checkKey(t *testing.T, f float64) {
	t.Helper()
	want := math.MaxInt
	if !math.IsNaN(f) {
		want = wantRank(f)
	}
	if got := weigh.Key(f); got != want {
		t.Errorf("Key(%g), of the bits %x, is %d, not %d", f, math.Float64bits(f), got, want)
	}
}

func checkCompare(t *testing.T, a, b float64) {
	t.Helper()
	want := wantCompare(a, b)
	if got := weigh.Compare(a, b); got != want {
		t.Errorf("Compare(%g, %g), of the bits %x and %x, is %d, not %d", a, b, math.Float64bits(a), math.Float64bits(b), got, want)
	}
	if got := cmp.Compare(weigh.Key(a), weigh.Key(b)); got != want {
		t.Errorf("the keys of %g and %g, of the bits %x and %x, stand %d, not %d", a, b, math.Float64bits(a), math.Float64bits(b), got, want)
	}
}

func checkNext(t *testing.T, f float64) {
	t.Helper()
	got := weigh.Next(f)
	if math.IsNaN(f) || math.IsInf(f, 1) {
		if !same(got, f) {
			t.Errorf("Next(%g), of the bits %x, is %g, of the bits %x", f, math.Float64bits(f), got, math.Float64bits(got))
		}
		return
	}
	if want := wantNext(f); !same(got, want) {
		t.Errorf("Next(%g), of the bits %x, is %g, not %g", f, math.Float64bits(f), got, want)
	}
	if n, ok := weigh.Steps(f, got); n != 1 || !ok || weigh.Key(got) != weigh.Key(f)+1 || weigh.Compare(f, got) != -1 {
		t.Errorf("from %g to its next one, %g, it is %d and %v", f, got, n, ok)
	}
}

func checkSteps(t *testing.T, a, b float64) {
	t.Helper()
	want, may := wantSteps(a, b)
	if got, ok := weigh.Steps(a, b); got != want || ok != may {
		t.Errorf("Steps(%g, %g) is %d and %v, not %d and %v", a, b, got, ok, want, may)
	}
}

func checkLists(t *testing.T, l []float64) {
	t.Helper()
	was := slices.Clone(l)
	want := wantOrder(l)
	if got := weigh.Order(l); !slices.Equal(got, want) {
		t.Errorf("Order(%g) is %d, not %d", l, got, want)
	}
	first := -1
	if len(want) > 0 {
		first = want[0]
	}
	if got := weigh.Least(l); got != first {
		t.Errorf("Least(%g) is %d, not %d", l, got, first)
	}
	if !sameAll(l, was) {
		t.Errorf("%g has become %g", was, l)
	}
}

// edges are floats at which something changes, in order, and without those that are no numbers.
func edges() []float64 {
	up := []float64{0}
	for _, f := range []float64{least, 2 * least, 3 * least, math.Ldexp(1, leastExponent), 0.1, 0.5, 1, 2, 3, 1 << 53, math.Ldexp(1, 1023), greatest, math.Inf(1)} {
		for _, near := range []float64{math.Nextafter(f, 0), f, math.Nextafter(f, math.Inf(1))} {
			if near > up[len(up)-1] {
				up = append(up, near)
			}
		}
	}
	var all []float64
	for _, f := range slices.Backward(up) {
		all = append(all, math.Copysign(f, -1))
	}
	return append(all, up...)
}

// newDrawer gives numbers of a seed that stays the same.
func newDrawer() *rand.Rand { return rand.New(rand.NewPCG(17, 64)) }

// draw gives a float of any bits, one near to an edge, or one of few.
func draw(d *rand.Rand) float64 {
	switch d.IntN(3) {
	case 0:
		return math.Float64frombits(d.Uint64())
	case 1:
		near := []uint64{0, sign, 0x7ff << 52, 0xfff << 52, steps, sign | steps, 1023 << 52}
		return math.Float64frombits(near[d.IntN(len(near))] + uint64(d.IntN(7)) - 3)
	}
	few := []float64{below0(), 0, 1, -1, math.NaN(), math.Inf(1), math.Inf(-1)}
	return few[d.IntN(len(few))]
}

// Wg1, Wg2: the chapter's example.
func TestExamples(t *testing.T) {
	if weigh.Compare(below0(), 0) != -1 || weigh.Compare(0, below0()) != 1 {
		t.Error("0 with the sign minus does not stand ahead of 0")
	}
	for _, f := range edges() {
		if weigh.Compare(math.NaN(), f) != 1 || weigh.Compare(f, math.NaN()) != -1 {
			t.Errorf("what is no number does not stand behind %g", f)
		}
	}
	l := []float64{math.NaN(), 0, math.Inf(1), below0(), math.Inf(-1)}
	if got := weigh.Order(l); !slices.Equal(got, []int{4, 3, 1, 2, 0}) {
		t.Errorf("Order(%g) is %d", l, got)
	}
}

// Wg1: ranks that are known by heart.
func TestKeyByHeart(t *testing.T) {
	for _, c := range []struct {
		f    float64
		rank int
	}{
		{0, 0},
		{below0(), -1},
		{least, 1},
		{-least, -2},
		{2 * least, 2},
		{-2 * least, -3},
		{math.Ldexp(1, -1022), 1 << 52},
		{math.Ldexp(-1, -1022), -1<<52 - 1},
		{1, 0x3ff0000000000000},
		{-1, -0x3ff0000000000001},
		{1.5, 0x3ff8000000000000},
		{2, 0x4000000000000000},
		{greatest, 0x7fefffffffffffff},
		{-greatest, -0x7ff0000000000000},
		{math.Inf(1), 0x7ff0000000000000},
		{math.Inf(-1), -0x7ff0000000000001},
		{math.NaN(), 1<<63 - 1},
		{-math.NaN(), api.MaxInt},
	} {
		if got := weigh.Key(c.f); got != c.rank {
			t.Errorf("Key(%g) is %d, not %d", c.f, got, c.rank)
		}
		checkKey(t, c.f)
	}
}

// Wg1: the rank of floats from all powers of 2, of both signs, and of any bits.
func TestKey(t *testing.T) {
	for exponent := -1074; exponent < 1024; exponent++ {
		f := math.Ldexp(1, exponent)
		for _, g := range []float64{f, math.Nextafter(f, 0), math.Nextafter(f, math.Inf(1)), f * 1.25, f * 1.75} {
			checkKey(t, g)
			checkKey(t, -g)
		}
	}
	d := newDrawer()
	for range 100000 {
		checkKey(t, draw(d))
	}
}

// Wg1, Wg3: what is no number has one key, stands behind all, is the same as any other, has no steps, and is its own next one, bit by bit.
func TestNoNumber(t *testing.T) {
	others := odd()
	for _, f := range others {
		if !math.IsNaN(f) {
			t.Fatalf("%g is a number", f)
		}
		checkKey(t, f)
		checkNext(t, f)
		for _, other := range others {
			checkCompare(t, f, other)
			checkSteps(t, f, other)
		}
		for _, number := range edges() {
			checkCompare(t, f, number)
			checkCompare(t, number, f)
			checkSteps(t, f, number)
			checkSteps(t, number, f)
		}
	}
}

// Wg1, Wg4: each float of a list in order stands ahead of all behind it, and is the same as itself alone.
func TestCompareInOrder(t *testing.T) {
	l := append(edges(), math.NaN())
	for j, a := range l {
		for k, b := range l {
			if got := weigh.Compare(a, b); got != cmp.Compare(j, k) {
				t.Errorf("Compare(%g, %g) is %d", a, b, got)
			}
			checkCompare(t, a, b)
		}
	}
}

// Wg1: floats of any bits.
func TestCompareDrawn(t *testing.T) {
	d := newDrawer()
	for range 100000 {
		a, b := draw(d), draw(d)
		checkCompare(t, a, b)
		checkCompare(t, a, a)
		checkCompare(t, math.Abs(a), -math.Abs(a))
	}
}

// Wg4: of two, one stands ahead or they are the same, turned round it is the opposite, and who stands ahead of one stands ahead of all behind it.
func TestTotalOrder(t *testing.T) {
	l := append(edges(), odd()[:6]...)
	l = append(l, 1, 0, below0(), math.NaN(), math.Inf(-1))
	for _, a := range l {
		for _, b := range l {
			ab := weigh.Compare(a, b)
			if ab != -weigh.Compare(b, a) || ab < -1 || ab > 1 {
				t.Fatalf("Compare(%g, %g) is %d, and turned round %d", a, b, ab, weigh.Compare(b, a))
			}
			if ab == 0 && !same(a, b) && !(math.IsNaN(a) && math.IsNaN(b)) {
				t.Fatalf("%g and %g are the same", a, b)
			}
			for _, c := range l {
				if ab <= 0 && weigh.Compare(b, c) <= 0 && weigh.Compare(a, c) != min(ab, weigh.Compare(b, c)) {
					t.Fatalf("%g, %g and %g stand %d, %d and %d", a, b, c, ab, weigh.Compare(b, c), weigh.Compare(a, c))
				}
			}
		}
	}
}

// Wg2: all lists of up to five of seven floats.
func TestListsAll(t *testing.T) {
	few := []float64{math.NaN(), math.Inf(-1), -1, below0(), 0, 1, math.Inf(1)}
	checkLists(t, nil)
	checkLists(t, []float64{})
	var try func(l []float64)
	try = func(l []float64) {
		checkLists(t, l)
		if len(l) == 5 {
			return
		}
		for _, f := range few {
			try(append(l[:len(l):len(l)], f))
		}
	}
	try(nil)
}

// Wg2: none has no least one, and no order.
func TestListsOfNone(t *testing.T) {
	for _, l := range [][]float64{nil, {}, []float64{1, 2}[:0]} {
		if got := weigh.Least(l); got != -1 {
			t.Errorf("Least of none is %d", got)
		}
		if got := weigh.Order(l); len(got) != 0 {
			t.Errorf("Order of none is %d", got)
		}
	}
}

// Wg2: longer lists, with many that are the same: of those, the first is the least one, and they stay as they come.
func TestListsDrawn(t *testing.T) {
	d := newDrawer()
	for size := range 60 {
		for range 10 {
			l := make([]float64, size)
			for k := range l {
				l[k] = draw(d)
			}
			checkLists(t, l)
		}
	}
	for _, f := range append(edges(), math.NaN()) {
		checkLists(t, slices.Repeat([]float64{f}, 40))
	}
	checkLists(t, odd())
}

// Wg2: a list that is long: each number is there once, and none stands ahead of the one before it, nor is the same and came ahead.
func TestOrderLong(t *testing.T) {
	d := newDrawer()
	l := make([]float64, 100000)
	for k := range l {
		l[k] = draw(d)
	}
	order := weigh.Order(l)
	if len(order) != len(l) {
		t.Fatalf("%d floats have %d numbers in order", len(l), len(order))
	}
	for k := range len(order) - 1 {
		a, b := order[k], order[k+1]
		if c := wantCompare(l[a], l[b]); c > 0 || c == 0 && a >= b {
			t.Fatalf("%g, with number %d, stands ahead of %g, with number %d", l[a], a, l[b], b)
		}
	}
	if order[0] != weigh.Least(l) {
		t.Errorf("Least is %d, and the first in order %d", weigh.Least(l), order[0])
	}
}

// Wg3: the next float, at the edges, at all powers of 2, and of any bits.
func TestNext(t *testing.T) {
	for _, f := range edges() {
		checkNext(t, f)
	}
	for exponent := -1074; exponent < 1024; exponent++ {
		f := math.Ldexp(1, exponent)
		for _, g := range []float64{f, math.Nextafter(f, 0), f * 1.5} {
			checkNext(t, g)
			checkNext(t, -g)
		}
	}
	d := newDrawer()
	for range 100000 {
		checkNext(t, draw(d))
	}
}

// Wg3: next floats that are known by heart.
func TestNextByHeart(t *testing.T) {
	for _, c := range []struct{ f, next float64 }{
		{math.Inf(-1), -greatest},
		{-2 * least, -least},
		{-least, below0()},
		{below0(), 0},
		{0, least},
		{least, 2 * least},
		{1, 1 + 0x1p-52},
		{-1, -1 + 0x1p-53},
		{greatest, math.Inf(1)},
		{math.Inf(1), math.Inf(1)},
	} {
		if got := weigh.Next(c.f); !same(got, c.next) {
			t.Errorf("Next(%g) is %g, not %g", c.f, got, c.next)
		}
	}
}

// Wg4: step by step up, also over 0, to the infinity above 0, and from the one below 0 on: each one further than the one before.
func TestStepsUp(t *testing.T) {
	const count = 2000
	for _, from := range []int{-infinityRank - 1, -steps - count/2, -count / 2, steps - count/2, infinityRank - count} {
		first := math.Float64frombits(uint64(from))
		if from < 0 {
			first = math.Float64frombits(sign + uint64(-1-from))
		}
		f := first
		for k := range count {
			if n, ok := weigh.Steps(first, f); n != k || !ok || weigh.Key(f) != from+k {
				t.Fatalf("%g is %d steps above %g, and %v, with the key %d", f, n, first, ok, weigh.Key(f))
			}
			if n, ok := weigh.Steps(f, first); n != -k || !ok {
				t.Fatalf("%g is %d steps above %g, and %v", first, n, f, ok)
			}
			above := weigh.Next(f)
			if weigh.Compare(f, above) != -1 || !same(above, wantNext(f)) {
				t.Fatalf("above %g is %g", f, above)
			}
			f = above
		}
	}
}

// Wg3: steps between all edges, and of any bits.
func TestSteps(t *testing.T) {
	l := append(edges(), math.NaN())
	for _, a := range l {
		for _, b := range l {
			checkSteps(t, a, b)
		}
	}
	d := newDrawer()
	for range 100000 {
		checkSteps(t, draw(d), draw(d))
	}
}

// Wg3: steps that are known by heart, and those that are just not too many, and just too many, both ways.
func TestStepsFar(t *testing.T) {
	for _, c := range []struct {
		a, b float64
		n    int
		ok   bool
	}{
		{0, 0, 0, true},
		{below0(), 0, 1, true},
		{0, below0(), -1, true},
		{-least, least, 3, true},
		{1, 2, 1 << 52, true},
		{0, math.Inf(1), infinityRank, true},
		{math.Inf(-1), 0, infinityRank + 1, true},
		{math.Inf(1), math.Inf(1), 0, true},
		{math.Inf(-1), math.Inf(-1), 0, true},
		{math.Inf(-1), math.Inf(1), 0, false},
		{math.Inf(1), math.Inf(-1), 0, false},
		{-greatest, greatest, 0, false},
		{greatest, -greatest, 0, false},
		{math.NaN(), math.NaN(), 0, false},
		{0, math.NaN(), 0, false},
		{math.NaN(), 0, 0, false},
		{math.Inf(1), math.NaN(), 0, false},
	} {
		if n, ok := weigh.Steps(c.a, c.b); n != c.n || ok != c.ok {
			t.Errorf("Steps(%g, %g) is %d and %v, not %d and %v", c.a, c.b, n, ok, c.n, c.ok)
		}
	}
	for _, rank := range []int{1, steps, 1 << 62, infinityRank - 1, infinityRank} {
		high := math.Float64frombits(uint64(rank))
		// low is 2^63 - 1 steps below high; its rank is rank - (2^63 - 1).
		low := math.Float64frombits(sign + uint64(math.MaxInt-rank-1))
		if math.IsNaN(low) {
			continue
		}
		if n, ok := weigh.Steps(low, high); n != api.MaxInt || !ok {
			t.Errorf("Steps(%g, %g) is %d and %v", low, high, n, ok)
		}
		if n, ok := weigh.Steps(high, low); n != -api.MaxInt || !ok {
			t.Errorf("Steps(%g, %g) is %d and %v", high, low, n, ok)
		}
		lower := math.Nextafter(low, math.Inf(-1))
		if n, ok := weigh.Steps(lower, high); n != 0 || ok {
			t.Errorf("Steps(%g, %g) is %d and %v", lower, high, n, ok)
		}
		if n, ok := weigh.Steps(high, lower); n != api.MinInt || !ok {
			t.Errorf("Steps(%g, %g) is %d and %v", high, lower, n, ok)
		}
		lowest := math.Nextafter(lower, math.Inf(-1))
		if n, ok := weigh.Steps(high, lowest); n != 0 || ok {
			t.Errorf("Steps(%g, %g) is %d and %v", high, lowest, n, ok)
		}
	}
}

// Wg2: what lies behind a list's end is not read, and nothing of what is handed in is changed.
func TestRoomBehind(t *testing.T) {
	l := []float64{3, 0, below0(), math.NaN(), 3, -1, math.Inf(-1), math.Inf(-1)}
	was := slices.Clone(l)
	for n := range l {
		checkLists(t, l[:n])
	}
	if !sameAll(l, was) {
		t.Errorf("%g has become %g", was, l)
	}
}

// Wg2: what is told is new memory: writing there shows neither in what was handed in, nor later.
func TestNewMemory(t *testing.T) {
	l := []float64{2, 1, 1, math.NaN()}
	was := slices.Clone(l)
	for range 2 {
		order, again := weigh.Order(l), weigh.Order(l)
		for k := range order[:cap(order)] {
			order[:cap(order)][k] = -7
		}
		if !slices.Equal(again, []int{1, 2, 0, 3}) || !sameAll(l, was) {
			t.Fatalf("Order(%g) is %d", l, again)
		}
	}
}

func FuzzWeigh(f *testing.F) {
	f.Add(uint64(0), uint64(sign), []byte{})
	f.Add(uint64(0x7ff<<52), uint64(0xfff<<52), []byte{1, 2, 3})
	f.Add(uint64(1), uint64(sign|1), []byte{0, 1, 0, 1})
	f.Add(uint64(0x7ff<<52|1), uint64(1<<64-1), []byte{3, 3, 0, 5, 4})
	f.Fuzz(func(t *testing.T, first, second uint64, which []byte) {
		a, b := math.Float64frombits(first), math.Float64frombits(second)
		for _, x := range []float64{a, b, -a, -b} {
			checkKey(t, x)
			checkNext(t, x)
			checkCompare(t, a, x)
			checkCompare(t, x, b)
			checkSteps(t, a, x)
			checkSteps(t, x, b)
		}
		few := []float64{a, b, -a, -b, 0, below0(), weigh.Next(a), weigh.Next(b)}
		var l []float64
		for _, k := range which[:min(len(which), 30)] {
			l = append(l, few[int(k)%len(few)])
		}
		checkLists(t, l)
	})
}
