package stamp_test

import (
	"math"
	"math/rand/v2"
	"slices"
	"testing"

	"sacristy/api"
	"sacristy/stamp"
)

const maxSeq = 1 << 40

var (
	// someSeqs are about the ends of what may be, and those of which the lowest bits are others'.
	someSeqs = []int{math.MinInt, math.MinInt + 1, -maxSeq, -1 << 32, -2, -1, 0, 1, 2, 3, 4, 5, 255, 256, 1<<31 - 1, 1 << 31, 1<<32 - 1, 1 << 32, 1<<32 + 1, maxSeq - 2, maxSeq - 1, maxSeq, maxSeq + 1, maxSeq + 2, 2 * maxSeq, 2*maxSeq + 1, 1 << 62, math.MaxInt - 1, math.MaxInt}
	// someClients are about the ends of what may be, and those of which the lowest bits are a client's.
	someClients = []int{math.MinInt, math.MinInt + 1, -1 << 32, -4, -3, -2, -1, 0, 1, 2, 3, 4, 5, 6, 7, 11, 255, 256, 257, 1<<32 + 1, 1<<62 + 4, math.MaxInt - 1, math.MaxInt}
)

func someStamps() []api.Stamp {
	var l []api.Stamp
	for _, seq := range someSeqs {
		for _, client := range someClients {
			l = append(l, api.Stamp{Seq: seq, Client: client})
		}
	}
	return l
}

func isClient(n int) bool { return 0 < n && n < 5 }

func isLater(a, b api.Stamp) bool { return a.Seq > b.Seq || a.Seq == b.Seq && a.Client > b.Client }

func wantCompare(a, b api.Stamp) int {
	switch {
	case isLater(b, a):
		return -1
	case isLater(a, b):
		return 1
	}
	return 0
}

func wantNext(n, client int) (api.Stamp, api.Errno) {
	switch {
	case n < 0 || !isClient(client):
		return api.Stamp{}, 1
	case n >= maxSeq:
		return api.Stamp{}, 2
	}
	return api.Stamp{Seq: 1 + n, Client: client}, 0
}

// wantVouched is told of the numbers in order: of those that t + 1 reach the greatest stands behind t others.
func wantVouched(t int, told []int) (int, bool) {
	if t != 1 && t != 2 || len(told) != 1+t+t+t {
		return 0, false
	}
	l := slices.Clone(told)
	slices.Sort(l)
	for len(l) > 0 && l[0] < 0 {
		l = l[1:]
	}
	if len(l) <= 2*t {
		return 0, false
	}
	v := l[len(l)-1-t]
	notPast := 0
	for notPast < len(l) && l[notPast] <= v {
		notPast++
	}
	if notPast <= 2*t {
		return 0, false
	}
	return v, true
}

func checkCompare(t *testing.T, a, b api.Stamp) {
	t.Helper()
	if got := stamp.Compare(a, b); got != wantCompare(a, b) {
		t.Errorf("Compare(%d, %d) is %d", a, b, got)
	}
}

func checkMay(t *testing.T, s api.Stamp) bool {
	t.Helper()
	got := stamp.May(s)
	if got != (0 < s.Seq && s.Seq <= maxSeq && isClient(s.Client)) {
		t.Errorf("May(%d) is %v", s, got)
	}
	return got
}

// checkNext tells whether there is a stamp; if so, it may be, and is later than those of the number.
func checkNext(t *testing.T, n, client int) bool {
	t.Helper()
	got, e := stamp.Next(n, client)
	want, wantErr := wantNext(n, client)
	if got != want || e != wantErr {
		t.Errorf("Next(%d, %d): %d, %d", n, client, got, e)
	}
	if e != api.OK {
		return false
	}
	if !stamp.May(got) || stamp.Compare(got, api.Stamp{Seq: n, Client: 4}) != 1 {
		t.Errorf("Next(%d, %d) is %d, and may not be, or is no later", n, client, got)
	}
	return true
}

// checkVouched tells whether there is a number, and that what was handed in is as it was.
func checkVouched(t *testing.T, faults int, told []int) bool {
	t.Helper()
	was := slices.Clone(told)
	v, ok := stamp.Vouched(faults, told)
	want, wantOk := wantVouched(faults, was)
	if v != want || ok != wantOk {
		t.Errorf("Vouched(%d, %d): %d, %v", faults, was, v, ok)
	}
	if !slices.Equal(told, was) {
		t.Errorf("Vouched(%d, %d) leaves %d", faults, was, told)
	}
	return ok
}

// eachList calls see with each list of so many of some numbers.
func eachList(size int, of []int, see func(l []int)) {
	l := make([]int, size)
	var from func(k int)
	from = func(k int) {
		if k == size {
			see(l)
			return
		}
		for _, n := range of {
			l[k] = n
			from(k + 1)
		}
	}
	from(0)
}

// newDrawer gives numbers of a seed that stays the same.
func newDrawer() *rand.Rand { return rand.New(rand.NewPCG(20, 40)) }

// Sp1: the number goes first, then the client.
func TestCompareByHeart(t *testing.T) {
	for _, c := range []struct {
		a, b api.Stamp
		want int
	}{
		{api.Stamp{}, api.Stamp{}, 0},
		{api.Stamp{Seq: 1, Client: 1}, api.Stamp{}, 1},
		{api.Stamp{Seq: 1, Client: 1}, api.Stamp{Seq: 1, Client: 1}, 0},
		{api.Stamp{Seq: 1, Client: 1}, api.Stamp{Seq: 1, Client: 2}, -1},
		{api.Stamp{Seq: 1, Client: 4}, api.Stamp{Seq: 2, Client: 1}, -1},
		{api.Stamp{Seq: 9, Client: 1}, api.Stamp{Seq: 10, Client: 1}, -1},
		{api.Stamp{Seq: maxSeq, Client: 4}, api.Stamp{Seq: maxSeq, Client: 3}, 1},
		{api.Stamp{Seq: maxSeq, Client: 1}, api.Stamp{Seq: maxSeq - 1, Client: 4}, 1},
		{api.Stamp{Seq: 1 << 32, Client: 1}, api.Stamp{Seq: 1, Client: 1}, 1},
		{api.Stamp{Seq: math.MinInt}, api.Stamp{Seq: math.MaxInt}, -1},
		{api.Stamp{Client: math.MinInt}, api.Stamp{Client: math.MaxInt}, -1},
		{api.Stamp{Seq: -1, Client: 9}, api.Stamp{Seq: 0, Client: -9}, -1},
	} {
		if got := stamp.Compare(c.a, c.b); got != c.want {
			t.Errorf("Compare(%d, %d) is %d", c.a, c.b, got)
		}
		if got := stamp.Compare(c.b, c.a); got != -c.want {
			t.Errorf("Compare(%d, %d) is %d", c.b, c.a, got)
		}
	}
}

// Sp1: stamps that may be, and those that may not: numbers that lie further apart than an int holds with them.
func TestCompareAll(t *testing.T) {
	l := someStamps()
	for _, a := range l {
		for _, b := range l {
			checkCompare(t, a, b)
		}
	}
}

// Sp1: stamps are put in order by Compare: each one stands either ahead of another one, or behind it.
func TestCompareOrders(t *testing.T) {
	l := someStamps()
	r := newDrawer()
	r.Shuffle(len(l), func(a, b int) { l[a], l[b] = l[b], l[a] })
	slices.SortFunc(l, stamp.Compare)
	for k, s := range l {
		if s != someStamps()[k] {
			t.Fatalf("%d stands at %d", s, k)
		}
	}
}

// Sp1: what may be has a number from 1 to 2^40, and a client from 1 to 4.
func TestMay(t *testing.T) {
	for _, s := range someStamps() {
		checkMay(t, s)
	}
	for n := -300; n <= 300; n++ {
		if checkMay(t, api.Stamp{Seq: n, Client: 1}) != (n >= 1) || checkMay(t, api.Stamp{Seq: 1, Client: n}) != (n >= 1 && n <= 4) {
			t.Errorf("%d", n)
		}
	}
	for _, c := range []struct {
		s    api.Stamp
		want bool
	}{
		{api.Stamp{}, false},
		{api.Stamp{Seq: 1}, false},
		{api.Stamp{Client: 1}, false},
		{api.Stamp{Seq: 1, Client: 1}, true},
		{api.Stamp{Seq: 1099511627776, Client: 4}, true},
		{api.Stamp{Seq: 1099511627777, Client: 4}, false},
		{api.Stamp{Seq: 1099511627776, Client: 5}, false},
		{api.Stamp{Seq: -1, Client: 1}, false},
	} {
		if stamp.May(c.s) != c.want {
			t.Errorf("May(%d) is %v", c.s, !c.want)
		}
	}
}

// Sp1: the stamp behind a number; ErrArg goes ahead of ErrFull.
func TestNext(t *testing.T) {
	for _, n := range someSeqs {
		for _, client := range someClients {
			may := n >= 0 && n < maxSeq && client >= 1 && client <= 4
			if checkNext(t, n, client) != may {
				t.Errorf("Next(%d, %d)", n, client)
			}
		}
	}
	for n := -300; n <= 300; n++ {
		for client := -10; client <= 10; client++ {
			checkNext(t, n, client)
		}
	}
	for _, c := range []struct {
		n, client int
		want      api.Stamp
		e         api.Errno
	}{
		{0, 1, api.Stamp{Seq: 1, Client: 1}, api.OK},
		{1099511627775, 4, api.Stamp{Seq: 1099511627776, Client: 4}, api.OK},
		{1099511627776, 4, api.Stamp{}, api.ErrFull},
		{math.MaxInt, 1, api.Stamp{}, api.ErrFull},
		{1099511627776, 0, api.Stamp{}, api.ErrArg},
		{math.MaxInt, 5, api.Stamp{}, api.ErrArg},
		{-1, 1, api.Stamp{}, api.ErrArg},
		{-1, 5, api.Stamp{}, api.ErrArg},
		{math.MinInt, 1, api.Stamp{}, api.ErrArg},
	} {
		if got, e := stamp.Next(c.n, c.client); got != c.want || e != c.e {
			t.Errorf("Next(%d, %d): %d, %d", c.n, c.client, got, e)
		}
	}
}

// Sp2: what was told, and what is vouched for, told by hand.
func TestVouchedByHeart(t *testing.T) {
	const no = -1
	for _, c := range []struct {
		t    int
		told []int
		want int // no: nothing is vouched for
	}{
		{1, []int{5, 5, 4, -1}, 5},
		{1, []int{9, 5, 4, 4}, 5},
		{1, []int{-1, -1, -1, -1}, no},
		{1, []int{5, -1, -1, -1}, no},
		{1, []int{5, 5, -1, -1}, no},
		{1, []int{0, 0, 0, 0}, 0},
		{1, []int{0, 0, 0, -1}, 0},
		{1, []int{1, 0, 0, -1}, no},
		{1, []int{1, 0, 0, 0}, 0},
		{1, []int{1, 1, 0, -1}, 1},
		{1, []int{1, 1, 0, 0}, 1},
		{1, []int{3, 2, 1, -1}, no},
		{1, []int{3, 2, 1, 0}, 2},
		{1, []int{3, 3, 3, -1}, 3},
		{1, []int{math.MaxInt, math.MaxInt, 0, math.MinInt}, math.MaxInt},
		{1, []int{math.MaxInt, 7, 7, 0}, 7},
		{1, []int{math.MaxInt, 7, 7, -1}, no},
		{1, []int{maxSeq + 1, maxSeq + 1, maxSeq, 0}, maxSeq + 1},
		{2, []int{1, 2, 3, 4, 5, 6, 7}, 5},
		{2, []int{1, 2, 3, 4, 5, 6, -1}, no},
		{2, []int{1, 2, 3, 4, 5, 5, -1}, no},
		{2, []int{1, 2, 5, 5, 5, 6, -1}, 5},
		{2, []int{1, 2, 5, 5, 5, -1, -1}, 5},
		{2, []int{1, 2, 5, 5, 6, -1, -1}, no},
		{2, []int{5, 5, 5, 5, -1, -1, -1}, no},
		{2, []int{0, 0, 0, 0, 0, -9, -9}, 0},
		{2, []int{9, 9, 0, 0, 0, 0, 0}, 0},
		{2, []int{9, 9, 9, 0, 0, 0, 0}, 9},
	} {
		v, ok := stamp.Vouched(c.t, c.told)
		if ok != (c.want != no) || ok && v != c.want || !ok && v != 0 {
			t.Errorf("Vouched(%d, %d): %d, %v", c.t, c.told, v, ok)
		}
	}
}

// Sp2: all that four servers may tell, of a few numbers, and all that seven may, of fewer ones.
func TestVouchedAll(t *testing.T) {
	eachList(4, []int{math.MinInt, -2, -1, 0, 1, 2, 3, maxSeq, math.MaxInt}, func(l []int) { checkVouched(t, 1, l) })
	eachList(7, []int{-1, 0, 1, 2, 3}, func(l []int) { checkVouched(t, 2, l) })
}

// Sp2: by the words: each number is tried, from above, whether enough reach it.
func TestVouchedByWords(t *testing.T) {
	words := func(faults int, l []int) (int, bool) {
		for v := 5; v >= 0; v-- {
			reach, notPast := 0, 0
			for _, n := range l {
				if n >= v {
					reach++
				}
				if n >= 0 && n <= v {
					notPast++
				}
			}
			if reach >= faults+1 {
				return v, notPast >= 2*faults+1
			}
		}
		return 0, false
	}
	check := func(faults int) func(l []int) {
		return func(l []int) {
			want, wantOk := words(faults, l)
			if !wantOk {
				want = 0
			}
			if v, ok := stamp.Vouched(faults, l); v != want || ok != wantOk {
				t.Errorf("Vouched(%d, %d): %d, %v", faults, l, v, ok)
			}
		}
	}
	eachList(4, []int{-1, 0, 1, 2, 3, 4, 5}, check(1))
	eachList(7, []int{-1, 0, 1, 2, 5}, check(2))
}

// Sp2: it does not matter which of the servers told what.
func TestVouchedTurned(t *testing.T) {
	r := newDrawer()
	for range 20000 {
		faults := 1 + r.IntN(2)
		l := make([]int, 3*faults+1)
		for k := range l {
			l[k] = r.IntN(5) - 1
		}
		v, ok := stamp.Vouched(faults, l)
		was := slices.Clone(l)
		r.Shuffle(len(l), func(a, b int) { l[a], l[b] = l[b], l[a] })
		if again, okAgain := stamp.Vouched(faults, l); again != v || okAgain != ok {
			t.Fatalf("Vouched(%d, ..) is %d and %v of %d, but %d and %v of %d", faults, v, ok, was, again, okAgain, l)
		}
	}
}

// Sp2: whatever is below 0 is nothing told, the same as -1.
func TestVouchedBelow0(t *testing.T) {
	for _, below := range []int{-2, -3, -maxSeq, -1 << 32, math.MinInt + 1, math.MinInt} {
		eachList(4, []int{-1, 0, 1, 2}, func(l []int) {
			v, ok := stamp.Vouched(1, l)
			x := slices.Clone(l)
			for k, n := range x {
				if n < 0 {
					x[k] = below
				}
			}
			if again, okAgain := stamp.Vouched(1, x); again != v || okAgain != ok {
				t.Errorf("%d: %d, %v; %d: %d, %v", l, v, ok, x, again, okAgain)
			}
		})
	}
}

// Sp2: nothing is vouched for, if t is not 1 or 2, or if there are not 3 t + 1 numbers.
func TestVouchedWrong(t *testing.T) {
	faults := []int{math.MinInt, math.MinInt + 1, -1 << 62, -5, -4, -3, -2, -1, 0, 1, 2, 3, 4, 5, 6, 1<<32 + 1, 1<<62 + 1, 1 << 62, math.MaxInt / 3, math.MaxInt - 1, math.MaxInt}
	for _, f := range faults {
		for size := range 41 {
			for _, n := range []int{-1, 0, 7} {
				l := slices.Repeat([]int{n}, size)
				may := n >= 0 && (f == 1 && size == 4 || f == 2 && size == 7)
				if checkVouched(t, f, l) != may {
					t.Errorf("Vouched(%d, %d)", f, l)
				}
			}
		}
		checkVouched(t, f, nil)
		checkVouched(t, f, []int{})
	}
	checkVouched(t, 1, slices.Repeat([]int{3}, 1<<20))
}

// R3: what lies in the room behind a list's end is not read, and nothing of it is changed.
func TestRoomBehind(t *testing.T) {
	for _, room := range [][]int{{3, 1, 2, -1, 9, 9, 9, 9}, {9, 0, 0, 0, 9, 9, 9, 9, 9, 9}, {1, 2, 3, 3, -1, 0, 0, 7, 7, 7, 7}} {
		was := slices.Clone(room)
		for n := range len(room) + 1 {
			for _, f := range []int{1, 2} {
				checkVouched(t, f, room[:n])
				checkVouched(t, f, room[len(room)-n:])
			}
		}
		if !slices.Equal(room, was) {
			t.Errorf("%d has become %d", was, room)
		}
	}
}

// isSound tells whether what is vouched for is as Sp3 says: truth is what each server had reached, liars are those that lie.
func isSound(faults, v int, told, truth []int, liars uint) bool {
	reached, passed, honest := false, 0, 0
	for k, n := range told {
		if liars>>k&1 != 0 {
			continue
		}
		honest++
		// Another one told it, or more, truly.
		reached = reached || n >= v
		if truth[k] > v {
			passed++
		}
	}
	return honest == 2*faults+1 && reached && passed <= faults
}

// eachLiars calls see with each choice of so many of some servers, a bit each.
func eachLiars(servers, many int, see func(liars uint)) {
	for liars := range uint(1) << servers {
		count := 0
		for k := range servers {
			count += int(liars >> k & 1)
		}
		if count == many {
			see(liars)
		}
	}
}

// Sp3: of four servers any one lies; the others told nothing, or what they had reached ahead, or more.
func TestSoundOfFour(t *testing.T) {
	seen := 0
	eachList(4, []int{-1, 0, 1, 2}, func(told []int) {
		v, ok := stamp.Vouched(1, told)
		if !ok {
			return
		}
		eachList(4, []int{0, 1, 2}, func(truth []int) {
			eachLiars(4, 1, func(liars uint) {
				for k := range 4 {
					if liars>>k&1 == 0 && told[k] >= 0 && told[k] < truth[k] {
						return
					}
				}
				seen++
				if !isSound(1, v, told, truth, liars) {
					t.Errorf("told %d, had reached %d, %b lies: %d", told, truth, liars, v)
				}
			})
		})
	})
	if seen == 0 {
		t.Error("nothing was looked at")
	}
}

// Sp3: of seven servers any two lie; what the others told is drawn.
func TestSoundOfSeven(t *testing.T) {
	r := newDrawer()
	seen := 0
	for range 20000 {
		truth, told := make([]int, 7), make([]int, 7)
		for k := range 7 {
			truth[k] = r.IntN(4)
			told[k] = truth[k] + max(0, r.IntN(4)-2)
			if r.IntN(8) == 0 {
				told[k] = -1
			}
		}
		eachLiars(7, 2, func(liars uint) {
			x := slices.Clone(told)
			for k := range 7 {
				if liars>>k&1 != 0 {
					x[k] = []int{-1, 0, 1, 2, 3, 4, math.MaxInt}[r.IntN(7)]
				}
			}
			v, ok := stamp.Vouched(2, x)
			if !ok {
				return
			}
			seen++
			if !isSound(2, v, x, truth, liars) {
				t.Errorf("told %d, had reached %d, %b lie: %d", x, truth, liars, v)
			}
		})
	}
	if seen == 0 {
		t.Error("nothing was looked at")
	}
}

// Sp3: when all that do not lie told the same, that is vouched for, whatever the others tell.
func TestSameOfAll(t *testing.T) {
	for _, n := range []int{0, 1, 5, maxSeq, math.MaxInt} {
		for _, lie := range []int{math.MinInt, -1, 0, 1, n - 1, n, n | 1, math.MaxInt} {
			for faults := 1; faults <= 2; faults++ {
				eachLiars(3*faults+1, faults, func(liars uint) {
					l := slices.Repeat([]int{n}, 3*faults+1)
					for k := range l {
						if liars>>k&1 != 0 {
							l[k] = lie
						}
					}
					if v, ok := stamp.Vouched(faults, l); v != n || !ok {
						t.Errorf("Vouched(%d, %d): %d, %v", faults, l, v, ok)
					}
				})
			}
		}
	}
}

// R4: what is answered hangs on no other call, whether ahead or at once.
func TestAtOnce(t *testing.T) {
	told := []int{9, 5, 4, 4}
	done := make(chan bool)
	for range 8 {
		go func() {
			same := true
			for range 500 {
				v, ok := stamp.Vouched(1, told)
				_, none := stamp.Vouched(2, told)
				s, e := stamp.Next(6, 2)
				_, full := stamp.Next(maxSeq, 2)
				same = same && v == 5 && ok && !none && s == api.Stamp{Seq: 7, Client: 2} && e == api.OK && full == api.ErrFull
			}
			done <- same
		}()
	}
	for range 8 {
		if !<-done {
			t.Error("answers hang on others")
		}
	}
}

// Sp1, Sp2: anything.
func FuzzStamp(f *testing.F) {
	f.Add(1, 1, 2, 4, []byte{5, 5, 4, 255})
	f.Add(maxSeq, 4, maxSeq+1, 1, []byte{9, 8, 1, 1, 1, 0, 0})
	f.Add(math.MinInt, math.MaxInt, -1, 0, []byte{})
	f.Fuzz(func(t *testing.T, seq, client, otherSeq, otherClient int, bytes []byte) {
		// Most ints are no numbers of stamps, and no clients: the same once more, cut down.
		few := []api.Stamp{{Seq: seq, Client: client}, {Seq: otherSeq, Client: otherClient}, {Seq: seq & (2*maxSeq - 1), Client: client & 7}, {Seq: otherSeq & 3, Client: otherClient & 7}, {Seq: seq, Client: otherClient & 7}}
		for _, a := range few {
			checkMay(t, a)
			checkNext(t, a.Seq, a.Client)
			checkNext(t, a.Client, a.Seq)
			for _, b := range few {
				checkCompare(t, a, b)
			}
		}
		var told []int
		for _, b := range bytes {
			told = append(told, []int{int(int8(b)), int(int8(b)) % 4, seq, otherSeq}[b&3])
		}
		checkVouched(t, seq, told)
		for faults := 1; faults <= 2; faults++ {
			checkVouched(t, faults, told)
			if size := 3*faults + 1; len(told) > size {
				checkVouched(t, faults, told[:size])
			}
		}
	})
}
