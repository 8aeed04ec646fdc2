package space_test

import (
	"maps"
	"math"
	"math/rand/v2"
	"slices"
	"strconv"
	"strings"
	"sync"
	"testing"
	"unsafe"

	"sacristy/api"
	"sacristy/space"
)

const (
	maxServers = 7
	maxClients = 4
	maxOwn     = 4
)

var (
	// someInts are about the ends of servers, clients and ends, and numbers of which the lowest bits are one.
	someInts = []int{math.MinInt, math.MinInt + 1, -1 << 32, -256, -8, -5, -4, -3, -2, -1, 0, 1, 2, 3, 4, 5, 6, 7, 8, 9, 10, 11, 12, 13, 15, 16, 255, 256, 257, 1 << 32, 1<<32 + 1, 1<<32 + 5, 1<<62 + 2, math.MaxInt - 1, math.MaxInt}
	// someKeys are like one another, and some of them may not be.
	someKeys = []string{"", "\x00", "\x00\x00", "a", "A", "a\x00", "aa", "b", "\x7f", "\x80", "\xff", "\xff\xff", "é", "12345678", "12345679", "1234567", "123456789", "\x00\x00\x00\x00\x00\x00\x00\x00", "\x00\x00\x00\x00\x00\x00\x00\x00\x00", strings.Repeat("\xff", 8), strings.Repeat("\xff", 9), strings.Repeat("a", 256), strings.Repeat("a", 257), " ", "\n"}
)

// model is a space by the chapter's words: who let each key be known.
type model struct {
	n, m int
	by   map[string]int
}

func newModel(n, m int) *model { return &model{n, m, map[string]int{}} }

func (o *model) quota(end int) int {
	for server := 1; server <= o.n; server++ {
		if end == server {
			return o.m * o.n * maxOwn
		}
	}
	for client := 1; client <= o.m; client++ {
		if end == o.n+client {
			return maxOwn
		}
	}
	return 0
}

func (o *model) used(end int) int {
	sum := 0
	for _, by := range o.by {
		if by == end {
			sum++
		}
	}
	return sum
}

// isAhead tells whether a stands ahead of b: byte by byte, and the shorter one first.
func isAhead(a, b string) bool {
	for k := 0; k < len(a) && k < len(b); k++ {
		if x, y := int(a[k]), int(b[k]); x != y {
			return x < y
		}
	}
	return len(a) < len(b)
}

// place is how many keys stand ahead.
func (o *model) place(key string) int {
	sum := 0
	for other := range o.by {
		if isAhead(other, key) {
			sum++
		}
	}
	return sum
}

func (o *model) find(key string) (int, bool) {
	if _, known := o.by[key]; !known {
		return 0, false
	}
	return o.place(key), true
}

func (o *model) open(key string, end int) (int, bool, api.Errno) {
	if len(key) == 0 || len(key) > 8 || o.quota(end) == 0 {
		return 0, false, api.ErrArg
	}
	if _, known := o.by[key]; known {
		return o.place(key), false, api.OK
	}
	if o.used(end) == o.quota(end) {
		return 0, false, api.ErrQuota
	}
	o.by[key] = end
	return o.place(key), true, api.OK
}

func (o *model) keys() []string {
	list := make([]string, len(o.by))
	for key := range o.by {
		list[o.place(key)] = key
	}
	return list
}

// usedAll is what Of takes.
func (o *model) usedAll() []int {
	list := make([]int, o.n+o.m)
	for k := range list {
		list[k] = o.used(k + 1)
	}
	return list
}

func newSpace(t testing.TB, n, m int) *space.Space {
	t.Helper()
	s, e := space.New(n, m)
	if s == nil || e != api.OK {
		t.Fatalf("New(%d, %d): %v, %d", n, m, s, e)
	}
	return s
}

// checkAll holds all that a space tells against the model.
func checkAll(t testing.TB, s *space.Space, o *model) {
	t.Helper()
	keys := o.keys()
	if got := s.Keys(); !slices.Equal(got, keys) {
		t.Fatalf("Keys() of %d and %d: %q, not %q", o.n, o.m, got, keys)
	}
	for k, key := range keys {
		if at, known := s.Find(key); at != k || !known {
			t.Errorf("Find(%q): %d, %v, not %d", key, at, known, k)
		}
	}
	for end := -1; end <= o.n+o.m+2; end++ {
		if got, want := s.Used(end), o.used(end); got != want {
			t.Errorf("Used(%d) of %d and %d is %d, not %d", end, o.n, o.m, got, want)
		}
	}
}

// checkOpen lets an end name a key to both.
func checkOpen(t testing.TB, s *space.Space, o *model, key string, end int) api.Errno {
	t.Helper()
	at, fresh, e := s.Open(key, end)
	wantAt, wantFresh, wantE := o.open(key, end)
	if at != wantAt || fresh != wantFresh || e != wantE {
		t.Fatalf("Open(%q, %d) of %d and %d: %d, %v, %d, not %d, %v, %d", key, end, o.n, o.m, at, fresh, e, wantAt, wantFresh, wantE)
	}
	at, known := s.Find(key)
	wantAt, wantKnown := o.find(key)
	if at != wantAt || known != wantKnown {
		t.Fatalf("Find(%q): %d, %v, not %d, %v", key, at, known, wantAt, wantKnown)
	}
	if got, want := s.Used(end), o.used(end); got != want {
		t.Fatalf("Used(%d) is %d, not %d", end, got, want)
	}
	return e
}

// keyOf is a key of a number: no two are the same.
func keyOf(prefix string, k int) string { return prefix + strconv.Itoa(k) }

// fill lets an end name as many keys as it may.
func fill(t testing.TB, s *space.Space, o *model, prefix string, end int) {
	t.Helper()
	for k := range o.quota(end) {
		if e := checkOpen(t, s, o, keyOf(prefix, k), end); e != api.OK {
			t.Fatalf("%d of the end %d of %d and %d: %d", k, end, o.n, o.m, e)
		}
	}
}

// prefixOf is one of an end's own.
func prefixOf(end int) string { return string(rune('a' + end)) }

// each calls for each number of servers and of clients.
func each(check func(n, m int)) {
	for n := 1; n <= maxServers; n++ {
		for m := 1; m <= maxClients; m++ {
			check(n, m)
		}
	}
}

// newDrawer gives numbers of a seed that stays the same.
func newDrawer() *rand.Rand { return rand.New(rand.NewPCG(22, 44)) }

// Ns1: of 1 to 7 servers and 1 to 4 clients, and no other numbers, there is a space, without keys.
func TestNew(t *testing.T) {
	check := func(n, m int) {
		s, e := space.New(n, m)
		o, oe := space.Of(n, m, nil, make([]int, 11)[:max(0, min(11, n))])
		if n < 1 || n > 7 || m < 1 || m > 4 {
			if s != nil || e != api.ErrArg || o != nil || oe != api.ErrArg {
				t.Errorf("New(%d, %d): %v, %d; Of: %v, %d", n, m, s, e, o, oe)
			}
			return
		}
		if s == nil || e != api.OK {
			t.Fatalf("New(%d, %d): %v, %d", n, m, s, e)
		}
		checkAll(t, s, newModel(n, m))
	}
	for _, n := range someInts {
		for _, m := range someInts {
			check(n, m)
		}
	}
	for n := -20; n <= 40; n++ {
		for m := -20; m <= 40; m++ {
			check(n, m)
		}
	}
}

// Ns1: the quotas by heart.
func TestQuotaByHeart(t *testing.T) {
	for _, c := range []struct{ n, m, end, want int }{
		{4, 2, 1, 32}, {4, 2, 4, 32}, {4, 2, 5, 4}, {4, 2, 6, 4}, {4, 2, 7, 0}, {4, 2, 0, 0}, {4, 2, -1, 0},
		{1, 1, 1, 4}, {1, 1, 2, 4}, {1, 1, 3, 0},
		{7, 4, 7, 112}, {7, 4, 8, 4}, {7, 4, 11, 4}, {7, 4, 12, 0},
		{7, 1, 7, 28}, {7, 1, 8, 4}, {7, 1, 9, 0},
		{1, 4, 1, 16}, {1, 4, 2, 4}, {1, 4, 5, 4}, {1, 4, 6, 0},
		{3, 2, 3, 24}, {2, 3, 3, 4},
	} {
		if got := newSpace(t, c.n, c.m).Quota(c.end); got != c.want {
			t.Errorf("Quota(%d) of %d and %d is %d", c.end, c.n, c.m, got)
		}
	}
}

// Ns1: each end's quota; what is no end has none, and names no key, and let none be known.
func TestEnds(t *testing.T) {
	each(func(n, m int) {
		for _, end := range someInts {
			s, o := newSpace(t, n, m), newModel(n, m)
			if got := s.Quota(end); got != o.quota(end) {
				t.Errorf("Quota(%d) of %d and %d is %d", end, n, m, got)
			}
			e := checkOpen(t, s, o, "k", end)
			if there := 1 <= end && end <= n+m; there != (e == api.OK) {
				t.Errorf("the end %d of %d and %d: %d", end, n, m, e)
			}
			checkAll(t, s, o)
			// A key that is known does not help what is no end.
			s, o = newSpace(t, n, m), newModel(n, m)
			checkOpen(t, s, o, "k", 1)
			checkOpen(t, s, o, "k", end)
			checkAll(t, s, o)
			if got := s.Quota(end); got != o.quota(end) {
				t.Errorf("Quota(%d) of %d and %d is %d now", end, n, m, got)
			}
		}
	})
}

// Ns1: told by hand; the example first.
func TestOpenByHeart(t *testing.T) {
	s := newSpace(t, 4, 2)
	for _, c := range []struct {
		key   string
		end   int
		at    int
		fresh bool
		e     api.Errno
		used  int
	}{
		{"a", 5, 0, true, api.OK, 1},
		{"b", 5, 1, true, api.OK, 2},
		{"a", 5, 0, false, api.OK, 2},
		{"a", 6, 0, false, api.OK, 0}, // another one let it be known
		{"A", 6, 0, true, api.OK, 1},
		{"a", 5, 1, false, api.OK, 2},
		{"aa", 5, 2, true, api.OK, 3},
		{"b", 5, 3, false, api.OK, 3},
		{"", 5, 0, false, api.ErrArg, 3},
		{"123456789", 5, 0, false, api.ErrArg, 3},
		{"12345678", 5, 0, true, api.OK, 4},
		{"c", 5, 0, false, api.ErrQuota, 4},
		{"", 5, 0, false, api.ErrArg, 4},
		{"123456789", 5, 0, false, api.ErrArg, 4},
		{"A", 5, 1, false, api.OK, 4},
		{"c", 0, 0, false, api.ErrArg, 0},
		{"c", 7, 0, false, api.ErrArg, 0},
		{"b", 7, 0, false, api.ErrArg, 0},
		{"c", 4, 5, true, api.OK, 1},
		{"c", 5, 5, false, api.OK, 4},
		{"\xff", 1, 6, true, api.OK, 1},
		{"\x00", 1, 0, true, api.OK, 2},
		{"\xff", 6, 7, false, api.OK, 1},
	} {
		at, fresh, e := s.Open(c.key, c.end)
		if at != c.at || fresh != c.fresh || e != c.e || s.Used(c.end) != c.used {
			t.Errorf("Open(%q, %d): %d, %v, %d; used %d", c.key, c.end, at, fresh, e, s.Used(c.end))
		}
	}
	if want := []string{"\x00", "12345678", "A", "a", "aa", "b", "c", "\xff"}; !slices.Equal(s.Keys(), want) {
		t.Errorf("Keys(): %q", s.Keys())
	}
	for k, key := range s.Keys() {
		if at, known := s.Find(key); at != k || !known {
			t.Errorf("Find(%q): %d, %v", key, at, known)
		}
	}
	// None of them is known, wherever it would stand.
	for _, key := range []string{"", "\x00\x00", "1234567", "123456789", "B", "ab", "bb", "d", "\xfe", "\xff\xff"} {
		if at, known := s.Find(key); at != 0 || known {
			t.Errorf("Find(%q): %d, %v", key, at, known)
		}
	}
}

// Ns1: whatever key and end, one behind the other, in a space of each kind.
func TestOpenAnything(t *testing.T) {
	each(func(n, m int) {
		s, o := newSpace(t, n, m), newModel(n, m)
		for _, key := range someKeys {
			for _, end := range someInts {
				checkOpen(t, s, o, key, end)
			}
			checkAll(t, s, o)
		}
		// Now by the ends first: soon clients have what they may.
		s, o = newSpace(t, n, m), newModel(n, m)
		for _, end := range slices.Backward(someInts) {
			for _, key := range someKeys {
				checkOpen(t, s, o, key, end)
			}
			checkAll(t, s, o)
		}
	})
}

// Ns1: what is no key, or no end, is an error ahead of the quota.
func TestOpenOrder(t *testing.T) {
	each(func(n, m int) {
		s, o := newSpace(t, n, m), newModel(n, m)
		fill(t, s, o, "k", n+1)
		for _, key := range []string{"", "123456789"} {
			if _, _, e := s.Open(key, n+1); e != api.ErrArg {
				t.Errorf("Open(%q): %d", key, e)
			}
		}
		if at, fresh, e := s.Open("z", n+1); at != 0 || fresh || e != api.ErrQuota {
			t.Errorf("one too many: %d, %v, %d", at, fresh, e)
		}
		if _, _, e := s.Open("z", n+m+1); e != api.ErrArg {
			t.Errorf("no end: %d", e)
		}
		checkAll(t, s, o)
	})
}

// Ns1: keys stand as bytes do, whatever they are, in whatever order they come.
func TestSorted(t *testing.T) {
	draw := newDrawer()
	var all []string
	for b := range 256 {
		all = append(all, string([]byte{byte(b)}), string([]byte{byte(b), 0}), string([]byte{'x', byte(b)}))
	}
	for range 3 {
		s, o := newSpace(t, maxServers, maxClients), newModel(maxServers, maxClients)
		for k, at := range draw.Perm(len(all)) {
			checkOpen(t, s, o, all[at], k%maxServers+1)
		}
		if len(s.Keys()) != len(o.keys()) || len(s.Keys()) < 700 {
			t.Fatal(len(s.Keys()))
		}
		checkAll(t, s, o)
	}
	// All orders of a few.
	few := []string{"\x7f", "\x80", "\x80\x00", "", "\x00"}
	var order func(done []string)
	order = func(done []string) {
		if len(done) == len(few) {
			s, o := newSpace(t, 1, 1), newModel(1, 1)
			for _, key := range done {
				checkOpen(t, s, o, key, 1)
			}
			checkAll(t, s, o)
			return
		}
		for _, key := range few {
			if !slices.Contains(done, key) {
				order(append(slices.Clone(done), key))
			}
		}
	}
	order(nil)
}

// Ns1: each end may let just so many keys be known as its quota; then it is refused, and those that are known it may name.
func TestQuotaJust(t *testing.T) {
	each(func(n, m int) {
		for end := 1; end <= n+m; end++ {
			s, o := newSpace(t, n, m), newModel(n, m)
			other := end%(n+m) + 1
			checkOpen(t, s, o, "other", other)
			fill(t, s, o, "k", end)
			if s.Used(end) != s.Quota(end) {
				t.Errorf("%d of %d and %d: used %d", end, n, m, s.Used(end))
			}
			for range 2 {
				if e := checkOpen(t, s, o, "more", end); e != api.ErrQuota {
					t.Errorf("%d of %d and %d: %d", end, n, m, e)
				}
			}
			checkAll(t, s, o)
			for _, key := range append(s.Keys(), "other") {
				if e := checkOpen(t, s, o, key, end); e != api.OK {
					t.Errorf("%q of %d: %d", key, end, e)
				}
			}
			checkAll(t, s, o)
			// Another one lets it be known: then the end may name it, too.
			if e := checkOpen(t, s, o, "more", other); e != api.OK {
				t.Errorf("%d, not %d: %d", other, end, e)
			}
			if e := checkOpen(t, s, o, "more", end); e != api.OK {
				t.Errorf("%d behind %d: %d", end, other, e)
			}
			checkAll(t, s, o)
		}
	})
}

// Ns2: all others name what they may, and more, and the end is not refused.
func TestNeverRefused(t *testing.T) {
	each(func(n, m int) {
		for end := 1; end <= n+m; end++ {
			s, o := newSpace(t, n, m), newModel(n, m)
			for other := 1; other <= n+m; other++ {
				if other == end {
					continue
				}
				fill(t, s, o, prefixOf(other), other)
				for _, key := range []string{"more", "", "123456789"} {
					s.Open(key, other)
				}
			}
			fill(t, s, o, prefixOf(end), end)
			checkAll(t, s, o)
			sum := 0
			for other := 1; other <= n+m; other++ {
				sum += s.Quota(other)
			}
			if len(s.Keys()) != sum {
				t.Errorf("%d and %d: %d keys, not %d", n, m, len(s.Keys()), sum)
			}
		}
	})
}

// Ns2: others name the end's keys ahead of it, or other ones between; the end's are as many as its quota, and none is refused.
func TestNeverRefusedDrawn(t *testing.T) {
	draw := newDrawer()
	for range 300 {
		n, m := 1+draw.IntN(maxServers), 1+draw.IntN(maxClients)
		s, o := newSpace(t, n, m), newModel(n, m)
		end := 1 + draw.IntN(n+m)
		quota := s.Quota(end)
		for range 2 * quota {
			for range draw.IntN(4) {
				if other := 1 + draw.IntN(n+m); other != end {
					checkOpen(t, s, o, keyOf([]string{"mine", "else"}[draw.IntN(2)], draw.IntN(quota)), other)
				}
			}
			if e := checkOpen(t, s, o, keyOf("mine", draw.IntN(quota)), end); e != api.OK {
				t.Fatalf("the end %d of %d and %d: %d", end, n, m, e)
			}
		}
		checkAll(t, s, o)
	}
}

// Ns1, R2: by chance, with keys and ends that may not be between; what is refused changes nothing.
func TestDrawn(t *testing.T) {
	draw := newDrawer()
	for range 200 {
		n, m := 1+draw.IntN(maxServers), 1+draw.IntN(maxClients)
		s, o := newSpace(t, n, m), newModel(n, m)
		for range 100 {
			key := make([]byte, draw.IntN(10))
			for k := range key {
				key[k] = []byte{0, 'a', 'b', 0x80, 0xff}[draw.IntN(5)]
			}
			checkOpen(t, s, o, string(key), draw.IntN(n+m+2))
		}
		checkAll(t, s, o)
		// It may be made again by what it tells, and then both go on alike.
		again, e := space.Of(n, m, s.Keys(), o.usedAll())
		if e != api.OK {
			t.Fatalf("Of(%d, %d, %q, %d): %d", n, m, s.Keys(), o.usedAll(), e)
		}
		alike := &model{n, m, maps.Clone(o.by)}
		for range 50 {
			key, end := keyOf("", draw.IntN(200)), draw.IntN(n+m+2)
			if e, ae := checkOpen(t, s, o, key, end), checkOpen(t, again, alike, key, end); e != ae {
				t.Fatalf("Open(%q, %d): %d, and of the one that was made again %d", key, end, e, ae)
			}
		}
		checkAll(t, again, o)
	}
}

// Ns1: Of told by hand.
func TestOfByHeart(t *testing.T) {
	for _, c := range []struct {
		n, m int
		keys []string
		used []int
		want api.Errno
	}{
		{4, 2, nil, []int{0, 0, 0, 0, 0, 0}, api.OK},
		{4, 2, []string{"a", "b"}, []int{0, 0, 0, 0, 2, 0}, api.OK},
		{4, 2, []string{"a", "b"}, []int{0, 1, 0, 0, 0, 1}, api.OK},
		{1, 1, []string{"\x7f", "\x80"}, []int{2, 0}, api.OK},
		{1, 1, []string{"1", "2", "3", "4", "5", "6", "7", "8"}, []int{4, 4}, api.OK},
		{1, 1, []string{"1", "2", "3", "4", "5"}, []int{5, 0}, api.ErrArg},
		{1, 1, []string{"1", "2", "3", "4", "5"}, []int{0, 5}, api.ErrArg},
		{1, 2, []string{"1", "2", "3", "4", "5"}, []int{5, 0, 0}, api.OK},
		{1, 2, []string{"1", "2", "3", "4", "5"}, []int{0, 5, 0}, api.ErrArg},
		{0, 1, nil, []int{0}, api.ErrArg},
		{1, 0, nil, []int{0}, api.ErrArg},
		{8, 1, nil, make([]int, 9), api.ErrArg},
		{1, 5, nil, make([]int, 6), api.ErrArg},
		{4, 2, []string{"b", "a"}, []int{0, 0, 0, 0, 2, 0}, api.ErrArg},
		{4, 2, []string{"a", "a"}, []int{0, 0, 0, 0, 2, 0}, api.ErrArg},
		{4, 2, []string{"\x80", "\x7f"}, []int{2, 0, 0, 0, 0, 0}, api.ErrArg},
		{4, 2, []string{"", "a"}, []int{2, 0, 0, 0, 0, 0}, api.ErrArg},
		{4, 2, []string{"a", "b23456789"}, []int{2, 0, 0, 0, 0, 0}, api.ErrArg},
		{4, 2, []string{"a", "b2345678"}, []int{2, 0, 0, 0, 0, 0}, api.OK},
		{4, 2, nil, nil, api.ErrArg},
		{4, 2, nil, []int{0, 0, 0, 0, 0}, api.ErrArg},
		{4, 2, nil, []int{0, 0, 0, 0, 0, 0, 0}, api.ErrArg},
		{4, 2, []string{"a"}, []int{0, 0, 0, 0, 0, 1, 0}, api.ErrArg},
		{4, 2, []string{"a"}, []int{0, 0, 0, 0, 0, 0, 1}, api.ErrArg},
		{4, 2, []string{"a"}, []int{0, 0, 0, 0, 0, 0}, api.ErrArg},
		{4, 2, []string{"a"}, []int{0, 0, 0, 0, 0, 2}, api.ErrArg},
		{4, 2, []string{"a"}, []int{2, 0, 0, 0, 0, -1}, api.ErrArg},
		{4, 2, nil, []int{-1, 0, 0, 0, 0, 1}, api.ErrArg},
		{4, 2, nil, []int{0, 0, 1 << 62, 1 << 62, 1 << 62, 1 << 62}, api.ErrArg},
		{4, 2, nil, []int{math.MaxInt, math.MaxInt, 2, 0, 0, 0}, api.ErrArg},
		{4, 2, nil, []int{math.MinInt, math.MinInt, 0, 0, 0, 0}, api.ErrArg},
		{4, 2, []string{"a"}, []int{1 << 32, 0, 0, 0, 0, 1}, api.ErrArg},
	} {
		s, e := space.Of(c.n, c.m, c.keys, c.used)
		if e != c.want || (s != nil) != (e == api.OK) {
			t.Errorf("Of(%d, %d, %q, %d): %v, %d", c.n, c.m, c.keys, c.used, s, e)
		}
		if s == nil {
			continue
		}
		if !slices.Equal(s.Keys(), c.keys) {
			t.Errorf("Of(%d, %d, %q, %d) has the keys %q", c.n, c.m, c.keys, c.used, s.Keys())
		}
		for k, want := range c.used {
			if s.Used(k+1) != want {
				t.Errorf("Of(%d, %d, %q, %d): used %d of %d", c.n, c.m, c.keys, c.used, s.Used(k+1), k+1)
			}
		}
	}
}

// mayOf tells by the chapter's words whether there is a space of these.
func mayOf(n, m int, keys []string, used []int) bool {
	if n < 1 || n > maxServers || m < 1 || m > maxClients || len(used) != n+m {
		return false
	}
	for k, key := range keys {
		if len(key) < 1 || len(key) > 8 || k > 0 && !isAhead(keys[k-1], key) {
			return false
		}
	}
	o, left := newModel(n, m), len(keys)
	for k, count := range used {
		if count < 0 || count > o.quota(k+1) || count > left {
			return false
		}
		left -= count
	}
	return left == 0
}

func checkOf(t testing.TB, n, m int, keys []string, used []int) *space.Space {
	t.Helper()
	s, e := space.Of(n, m, keys, used)
	if !mayOf(n, m, keys, used) {
		if s != nil || e != api.ErrArg {
			t.Fatalf("Of(%d, %d, %q, %d): %v, %d", n, m, keys, used, s, e)
		}
		return nil
	}
	if s == nil || e != api.OK || !slices.Equal(s.Keys(), keys) {
		t.Fatalf("Of(%d, %d, %q, %d): %v, %d", n, m, keys, used, s, e)
	}
	for end := -1; end <= n+m+1; end++ {
		want := 0
		if 1 <= end && end <= n+m {
			want = used[end-1]
		}
		if s.Used(end) != want {
			t.Fatalf("Of(%d, %d, %q, %d): used %d of %d", n, m, keys, used, s.Used(end), end)
		}
	}
	return s
}

// Ns1: all lists of up to four of some keys, whoever let them be known.
func TestOfKeys(t *testing.T) {
	some := []string{"", "a", "aa", "b", "\xff", "123456789"}
	var try func(keys []string)
	try = func(keys []string) {
		for servers := 0; servers <= len(keys)+1; servers++ {
			checkOf(t, 1, 2, keys, []int{servers, len(keys) - servers, 0})
		}
		checkOf(t, 2, 1, keys, []int{0, len(keys), 0})
		if len(keys) == 4 {
			return
		}
		for _, key := range some {
			try(append(slices.Clone(keys), key))
		}
	}
	try(nil)
}

// Ns1: whoever let a few keys be known, each number about an end's quota.
func TestOfUsed(t *testing.T) {
	counts := []int{math.MinInt, -4, -1, 0, 1, 2, 3, 4, 5, 7, 8, 9, math.MaxInt}
	var all []string
	for k := range 24 {
		all = append(all, prefixOf(k))
	}
	for number := range all {
		for _, a := range counts {
			for _, b := range counts {
				checkOf(t, 1, 1, all[:number], []int{a, b})
				for _, c := range counts {
					checkOf(t, 1, 2, all[:number], []int{a, b, c})
					checkOf(t, 2, 1, all[:number], []int{a, b, c})
				}
			}
		}
	}
}

// Ns1: full spaces, and all that is but a little wrong in them: at each key, and at each end.
func TestOfFull(t *testing.T) {
	each(func(n, m int) {
		o := newModel(n, m)
		s := newSpace(t, n, m)
		for end := 1; end <= n+m; end++ {
			fill(t, s, o, prefixOf(end), end)
		}
		keys, used := s.Keys(), o.usedAll()
		again := checkOf(t, n, m, keys, used)
		checkAll(t, again, o)
		for end := 1; end <= n+m; end++ {
			checkOpen(t, again, o, "more", end)
			for _, other := range []int{end%(n+m) + 1, (end+n-1)%(n+m) + 1} {
				wrong := slices.Clone(used)
				wrong[end-1]++
				checkOf(t, n, m, keys, wrong)
				wrong[other-1]--
				checkOf(t, n, m, keys, wrong)
			}
			wrong := slices.Clone(used)
			wrong[end-1]--
			checkOf(t, n, m, keys, wrong)
			checkOf(t, n, m, keys[1:], wrong)
		}
		for k := range keys {
			for _, key := range []string{"", "123456789", "A", "~", keys[0], keys[len(keys)-1]} {
				wrong := slices.Clone(keys)
				wrong[k] = key
				checkOf(t, n, m, wrong, used)
			}
		}
		for end := -1; end <= n+m+1; end++ {
			checkOf(t, n, m, keys, append(used[:max(0, min(end, n+m)):max(0, min(end, n+m))], used...))
			checkOf(t, n, m, nil, make([]int, end+1))
		}
	})
}

// Ns1, Ns2: a space that Of gave goes on from what each end used.
func TestOfGoesOn(t *testing.T) {
	draw := newDrawer()
	for range 200 {
		n, m := 1+draw.IntN(maxServers), 1+draw.IntN(maxClients)
		o := newModel(n, m)
		for end := 1; end <= n+m; end++ {
			for k := range draw.IntN(o.quota(end) + 1) {
				o.by[keyOf(prefixOf(end), k)] = end
			}
		}
		s := checkOf(t, n, m, o.keys(), o.usedAll())
		checkAll(t, s, o)
		for _, k := range draw.Perm(n + m) {
			for left := o.quota(k+1) - o.used(k+1); left >= 0; left-- {
				if e := checkOpen(t, s, o, keyOf("new"+prefixOf(k+1), left), k+1); (e == api.ErrQuota) != (left == 0) {
					t.Fatalf("%d left: %d", left, e)
				}
			}
		}
		checkAll(t, s, o)
	}
}

// R1, Ns1: of a space that New did not give: ErrArg, nothing, 0.
func TestNotMade(t *testing.T) {
	for _, s := range []*space.Space{nil, {}, new(space.Space)} {
		for _, end := range someInts {
			for _, key := range someKeys {
				if at, fresh, e := s.Open(key, end); at != 0 || fresh || e != api.ErrArg {
					t.Errorf("Open(%q, %d): %d, %v, %d", key, end, at, fresh, e)
				}
				if at, known := s.Find(key); at != 0 || known {
					t.Errorf("Find(%q): %d, %v", key, at, known)
				}
			}
			if s.Used(end) != 0 || s.Quota(end) != 0 {
				t.Errorf("the end %d: %d, %d", end, s.Used(end), s.Quota(end))
			}
		}
		if len(s.Keys()) != 0 {
			t.Errorf("Keys(): %q", s.Keys())
		}
	}
}

// R3: lists that are handed in are not kept, not changed, and not read beyond their ends; nil and empty are the same.
func TestListsIn(t *testing.T) {
	keys := []string{"a", "b", "c", "d", "A", ""}
	used := []int{1, 2, 1, 7, -1}
	wasKeys, wasUsed := slices.Clone(keys), slices.Clone(used)
	s, e := space.Of(1, 2, keys[:4], used[:3])
	if e != api.OK {
		t.Fatal(e)
	}
	o := newModel(1, 2)
	o.by = map[string]int{"a": 1, "b": 2, "c": 2, "d": 3}
	checkAll(t, s, o)
	for k := range 3 {
		checkOpen(t, s, o, keyOf("b", k), k+1)
	}
	checkAll(t, s, o)
	if !slices.Equal(keys, wasKeys) || !slices.Equal(used, wasUsed) {
		t.Errorf("changed: %q, %d", keys, used)
	}
	clear(keys)
	clear(used)
	checkAll(t, s, o)
	for _, none := range [][]string{nil, {}, wasKeys[:0]} {
		if s, e := space.Of(1, 1, none, []int{0, 0}); s == nil || e != api.OK || len(s.Keys()) != 0 {
			t.Errorf("of no keys: %v, %d", s, e)
		}
	}
	for _, none := range [][]int{nil, {}, wasUsed[:0]} {
		if s, e := space.Of(1, 1, nil, none); s != nil || e != api.ErrArg {
			t.Errorf("of no ends: %v, %d", s, e)
		}
	}
}

// R3: a list of keys is new memory each time.
func TestListsOut(t *testing.T) {
	s, o := newSpace(t, 4, 2), newModel(4, 2)
	for k := range 10 {
		checkOpen(t, s, o, keyOf("k", k), 1)
		list, other := s.Keys(), s.Keys()
		full := list[:cap(list)]
		for at := range full {
			full[at] = "~"
		}
		if !slices.Equal(other, o.keys()) {
			t.Errorf("the other list is %q", other)
		}
		checkAll(t, s, o)
		// What comes later does not show in what was told.
		checkOpen(t, s, o, keyOf("a", k), 2)
		if len(other) != 2*k+1 || slices.Contains(other, keyOf("a", k)) {
			t.Errorf("the list is %q now", other)
		}
	}
}

// R3: a key is copied: what is handed in may be a piece of much more.
func TestKeysCopied(t *testing.T) {
	long := strings.Repeat("abcdefgh", 1000)
	isPiece := func(key string) bool {
		from, at := uintptr(unsafe.Pointer(unsafe.StringData(long))), uintptr(unsafe.Pointer(unsafe.StringData(key)))
		return at >= from && at < from+uintptr(len(long))
	}
	s := newSpace(t, 1, 1)
	if _, fresh, e := s.Open(long[8:16], 1); !fresh || e != api.OK {
		t.Fatal(e)
	}
	if isPiece(s.Keys()[0]) {
		t.Error("Open keeps what it is handed")
	}
	s, e := space.Of(1, 1, []string{long[8:16]}, []int{1, 0})
	if e != api.OK {
		t.Fatal(e)
	}
	if isPiece(s.Keys()[0]) {
		t.Error("Of keeps what it is handed")
	}
}

// R4: spaces go their own ways.
func TestAlone(t *testing.T) {
	a, b := newSpace(t, 4, 2), newSpace(t, 4, 2)
	o := newModel(4, 2)
	for end := 1; end <= 6; end++ {
		fill(t, a, o, prefixOf(end), end)
	}
	checkAll(t, b, newModel(4, 2))
	keys, used := a.Keys(), o.usedAll()
	used[5], used[4] = 3, 4
	c, ce := space.Of(4, 2, keys[1:], used)
	d, de := space.Of(4, 2, keys[1:], used)
	if ce != api.OK || de != api.OK {
		t.Fatal(ce, de)
	}
	if _, fresh, e := c.Open(keys[0], 6); !fresh || e != api.OK {
		t.Error(fresh, e)
	}
	if _, known := d.Find(keys[0]); known || d.Used(6) != 3 || len(d.Keys()) != len(keys)-1 {
		t.Error("what one knows, the other one knows")
	}
}

// R4: spaces that are used at once do not show in one another, and what only asks may ask at once.
func TestAtOnce(t *testing.T) {
	shared, o := newSpace(t, 4, 2), newModel(4, 2)
	fill(t, shared, o, "k", 1)
	keys := shared.Keys()
	var all sync.WaitGroup
	for seed := range 8 {
		all.Go(func() {
			own, ofOwn := newSpace(t, 7, 4), newModel(7, 4)
			for k := range 200 {
				at, fresh, e := own.Open(keyOf("k", (k*7+seed)%60), k%11+1)
				if wantAt, wantFresh, want := ofOwn.open(keyOf("k", (k*7+seed)%60), k%11+1); at != wantAt || fresh != wantFresh || e != want {
					t.Errorf("Open: %d, %v, %d, not %d, %v, %d", at, fresh, e, wantAt, wantFresh, want)
				}
				if !slices.Equal(shared.Keys(), keys) || shared.Used(1) != len(keys) || shared.Quota(5) != maxOwn {
					t.Error("what only asks tells something else")
				}
				if at, known := shared.Find(keys[k%len(keys)]); at != k%len(keys) || !known {
					t.Errorf("Find: %d, %v", at, known)
				}
			}
		})
	}
	all.Wait()
}

// Ns1, Ns2: by whatever bytes: numbers of servers and clients, then keys and ends.
func FuzzSpace(f *testing.F) {
	f.Add([]byte("\x03\x01a\x05b\x05a\x05c\x05d\x05e\x05"))
	f.Add([]byte("\x00\x00a\x01\x80\x01\x7f\x02\x00\x01"))
	f.Fuzz(func(t *testing.T, data []byte) {
		if len(data) < 2 {
			return
		}
		n, m := int(data[0])%maxServers+1, int(data[1])%maxClients+1
		s, o := newSpace(t, n, m), newModel(n, m)
		for rest := data[2:]; len(rest) >= 2; {
			// The end's byte tells how long the key is, too.
			end, size := int(rest[0])%16-2, min(int(rest[0])/16, len(rest)-1)
			checkOpen(t, s, o, string(rest[1:1+size]), end)
			rest = rest[1+size:]
		}
		checkAll(t, s, o)
		again := checkOf(t, n, m, o.keys(), o.usedAll())
		checkAll(t, again, o)
		// The bytes as what Of takes.
		keys, used := strings.Split(string(data[2:]), "\xff"), make([]int, n+m)
		for k := range used {
			used[k] = int(int8(data[k%len(data)]))
		}
		checkOf(t, n, m, keys, used)
		used[0] = len(keys)
		clear(used[1:])
		checkOf(t, n, m, keys, used)
	})
}
