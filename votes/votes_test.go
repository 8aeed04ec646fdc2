package votes_test

import (
	"maps"
	"math"
	"math/bits"
	"math/rand/v2"
	"strings"
	"testing"
	"unsafe"

	"sacristy/api"
	"sacristy/votes"
)

const (
	maxServers = 7
	maxClients = 4
	maxSeq     = 1 << 40
)

var (
	// someInts are about the ends of servers, clients and parities, and numbers of which the lowest bits are one.
	someInts = []int{math.MinInt, math.MinInt + 1, -1 << 32, -8, -7, -4, -3, -2, -1, 0, 1, 2, 3, 4, 5, 6, 7, 8, 9, 15, 16, 255, 256, 257, 1 << 32, 1<<32 + 1, 1<<62 + 2, math.MaxInt - 1, math.MaxInt}
	// someSeqs are about the ends of what may be, and those of which the lowest bits are others'.
	someSeqs = []int{math.MinInt, math.MinInt + 1, -maxSeq, -1 << 32, -3, -2, -1, 0, 1, 2, 3, 4, 5, 255, 256, 1<<31 - 1, 1 << 31, 1<<32 - 1, 1 << 32, 1<<32 + 1, maxSeq - 2, maxSeq - 1, maxSeq, maxSeq + 1, maxSeq + 2, 2*maxSeq + 1, 1 << 62, math.MaxInt - 1, math.MaxInt}
	// someDigests are like one another: none, a part, more behind, one bit, one byte at the end.
	someDigests = []string{"", "\x00", "\x00\x00", "d", "D", "d\x00", "dd", strings.Repeat("d", 31), strings.Repeat("d", 32), strings.Repeat("d", 31) + "e", "e" + strings.Repeat("d", 31), strings.Repeat("\x00", 32), strings.Repeat("\xff", 32), strings.Repeat("d", 1000)}
)

type place struct{ server, client, odd int }

type ballot struct {
	s      api.Stamp
	digest string
}

// model is votes by the chapter's words: the places that have one.
type model struct {
	n  int
	in map[place]ballot
}

func newModel(n int) model { return model{n, map[place]ballot{}} }

func (m model) copied() model { return model{m.n, maps.Clone(m.in)} }

func isOf(last, n int) bool { return 0 < n && n < last+1 }

func mayBe(s api.Stamp) bool { return isOf(maxSeq, s.Seq) && isOf(maxClients, s.Client) }

func placeOf(server int, s api.Stamp) place {
	odd := 0
	if s.Seq%2 != 0 {
		odd = 1
	}
	return place{server, s.Client, odd}
}

func (m model) put(server int, s api.Stamp, digest string) bool {
	if !isOf(m.n, server) || !mayBe(s) {
		return false
	}
	p := placeOf(server, s)
	if was, ok := m.in[p]; ok && was.s.Seq >= s.Seq {
		return false
	}
	m.in[p] = ballot{s, digest}
	return true
}

func (m model) count(s api.Stamp, digest string) int {
	sum := 0
	for _, b := range m.in {
		if b.s.Seq == s.Seq && b.s.Client == s.Client && b.digest == digest {
			sum++
		}
	}
	return sum
}

func of(seq, client int) api.Stamp { return api.Stamp{Seq: seq, Client: client} }

// isOdd is 1 of an odd number, 0 of an even one.
func isOdd(n int) int { return placeOf(1, of(n, 1)).odd }

func newVotes(t testing.TB, n int) *votes.Votes {
	t.Helper()
	v, e := votes.New(n)
	if v == nil || e != api.OK {
		t.Fatalf("New(%d): %v, %d", n, v, e)
	}
	return v
}

// checkAll holds all places against the model's, also those that are none.
func checkAll(t *testing.T, v *votes.Votes, m model) {
	t.Helper()
	for server := 0; server <= maxServers+1; server++ {
		for client := 0; client <= maxClients+1; client++ {
			for odd := -1; odd <= 2; odd++ {
				checkAt(t, v, m, place{server, client, odd})
			}
		}
	}
	for _, b := range m.in {
		checkCount(t, v, m, b.s, b.digest)
	}
}

func checkAt(t *testing.T, v *votes.Votes, m model, p place) {
	t.Helper()
	s, digest := v.At(p.server, p.client, p.odd)
	if want := m.in[p]; s != want.s || digest != want.digest {
		t.Errorf("At(%d, %d, %d) of %d servers: %d, %q, not %d, %q", p.server, p.client, p.odd, m.n, s, digest, want.s, want.digest)
	}
}

func checkCount(t *testing.T, v *votes.Votes, m model, s api.Stamp, digest string) {
	t.Helper()
	if got, want := v.Count(s, digest), m.count(s, digest); got != want {
		t.Errorf("Count(%d, %q) of %d servers is %d, not %d", s, digest, m.n, got, want)
	}
}

// checkPut puts to both, and tells whether it was put.
func checkPut(t *testing.T, v *votes.Votes, m model, server int, s api.Stamp, digest string) bool {
	t.Helper()
	got := v.Put(server, s, digest)
	if want := m.put(server, s, digest); got != want {
		t.Fatalf("Put(%d, %d, %q) of %d servers is %v", server, s, digest, m.n, got)
	}
	checkAt(t, v, m, placeOf(server, s))
	checkCount(t, v, m, s, digest)
	return got
}

// fill puts something into each place: no two are the same.
func fill(t *testing.T, v *votes.Votes, m model, from int) {
	t.Helper()
	for server := 1; server <= m.n; server++ {
		for client := 1; client <= maxClients; client++ {
			for odd := range 2 {
				if !checkPut(t, v, m, server, of(from+odd, client), string([]byte{byte(server), byte(client)})) {
					t.Fatalf("%d of %d is not put for %d", from+odd, client, server)
				}
			}
		}
	}
}

// newDrawer gives numbers of a seed that stays the same.
func newDrawer() *rand.Rand { return rand.New(rand.NewPCG(21, 42)) }

// Vo1: of 1 to 7 servers, and no other number, there are votes, none at first.
func TestNew(t *testing.T) {
	check := func(n int) {
		v, e := votes.New(n)
		if n < 1 || n > 7 {
			if v != nil || e != api.ErrArg {
				t.Errorf("New(%d): %v, %d", n, v, e)
			}
			return
		}
		if v == nil || e != api.OK {
			t.Fatalf("New(%d): %v, %d", n, v, e)
		}
		checkAll(t, v, newModel(n))
	}
	for _, n := range someInts {
		check(n)
	}
	for n := -300; n <= 300; n++ {
		check(n)
	}
}

// Vo1, R4: what is put to some votes is not put to others that New gave.
func TestNewAlone(t *testing.T) {
	a, b, m := newVotes(t, 7), newVotes(t, 7), newModel(7)
	fill(t, a, m, 1)
	checkAll(t, b, newModel(7))
	checkAll(t, newVotes(t, 7), newModel(7))
}

// Vo1: told by hand; the example first.
func TestPutByHeart(t *testing.T) {
	v := newVotes(t, 4)
	for _, c := range []struct {
		server, seq, client int
		digest              string
		want                bool
	}{
		{1, 5, 1, "five", true},
		{1, 6, 1, "six", true},
		{1, 5, 1, "five", false}, // the same again
		{1, 5, 1, "other", false},
		{1, 3, 1, "three", false},
		{1, 1, 1, "one", false},
		{1, 4, 1, "four", false},
		{1, 7, 1, "seven", true},
		{1, 5, 1, "five", false}, // gone, and it does not come back
		{1, 5, 2, "five", true},  // another client
		{2, 5, 1, "five", true},  // another server
		{4, 1, 4, "one", true},
		{4, 2, 4, "two", true},
		{5, 9, 1, "nine", false}, // there are four
		{0, 9, 1, "nine", false},
		{-1, 9, 1, "nine", false},
		{1, 9, 0, "nine", false},
		{1, 9, 5, "nine", false},
		{1, 0, 1, "none", false},
		{1, -1, 1, "none", false},
		{1, 1099511627777, 1, "much", false},
		{1, 1099511627778, 1, "much", false},
		{3, 1, 3, "", true}, // a digest may be any text
		{3, 1, 3, "", false},
		{3, 3, 3, "", true},
		{2, 1099511627775, 2, "last", true},
		{2, 1099511627776, 2, "last", true},
		{2, 1099511627776, 2, "last", false},
		{2, 1, 2, "last", false},
	} {
		if got := v.Put(c.server, of(c.seq, c.client), c.digest); got != c.want {
			t.Errorf("Put(%d, %d of %d, %q) is %v", c.server, c.seq, c.client, c.digest, got)
		}
	}
	for _, c := range []struct {
		p    place
		want ballot
	}{
		{place{1, 1, 1}, ballot{of(7, 1), "seven"}},
		{place{1, 1, 0}, ballot{of(6, 1), "six"}},
		{place{1, 2, 1}, ballot{of(5, 2), "five"}},
		{place{1, 2, 0}, ballot{}},
		{place{2, 1, 1}, ballot{of(5, 1), "five"}},
		{place{4, 4, 1}, ballot{of(1, 4), "one"}},
		{place{4, 4, 0}, ballot{of(2, 4), "two"}},
		{place{3, 3, 1}, ballot{of(3, 3), ""}},
		{place{2, 2, 1}, ballot{of(1099511627775, 2), "last"}},
		{place{2, 2, 0}, ballot{of(1099511627776, 2), "last"}},
		{place{5, 1, 1}, ballot{}},
	} {
		if s, digest := v.At(c.p.server, c.p.client, c.p.odd); s != c.want.s || digest != c.want.digest {
			t.Errorf("At(%d): %d, %q", c.p, s, digest)
		}
	}
	if v.Count(of(5, 1), "five") != 1 || v.Count(of(7, 1), "seven") != 1 || v.Count(of(3, 1), "three") != 0 {
		t.Error("Count")
	}
}

// Vo1: whatever server, number and client: all places are as they should be then, in votes that have none, and in full ones.
func TestPutAnything(t *testing.T) {
	for n := 1; n <= maxServers; n++ {
		for _, seq := range someSeqs {
			for _, client := range someInts {
				for _, server := range someInts {
					checkPut(t, newVotes(t, n), newModel(n), server, of(seq, client), "d")
				}
			}
		}
		v, m := newVotes(t, n), newModel(n)
		fill(t, v, m, 3)
		for _, seq := range someSeqs {
			for _, client := range someInts {
				for _, server := range someInts {
					checkPut(t, v, m, server, of(seq, client), "e")
				}
			}
			checkAll(t, v, m)
		}
	}
}

// Vo1: the number alone tells which of two votes is later: each pair of numbers, the digests the same or not.
func TestPutPairs(t *testing.T) {
	seqs := []int{1, 2, 3, 4, 5, 6, 7, 8, 255, 256, 257, 1<<32 - 1, 1 << 32, 1<<32 + 1, 1<<32 + 2, maxSeq - 3, maxSeq - 2, maxSeq - 1, maxSeq}
	for _, first := range seqs {
		for _, next := range seqs {
			for _, digest := range []string{"", "a", "b", "c"} {
				v := newVotes(t, 3)
				if !v.Put(2, of(first, 3), "b") {
					t.Fatalf("%d is not put", first)
				}
				want := (first+next)%2 != 0 || next > first
				if got := v.Put(2, of(next, 3), digest); got != want {
					t.Errorf("%d, then %d: %v", first, next, got)
				}
				kept := (first+next)%2 != 0 || next <= first
				if (v.Count(of(first, 3), "b") == 1) != kept {
					t.Errorf("%d, then %d: there are %d of the first one", first, next, v.Count(of(first, 3), "b"))
				}
				if want && v.Count(of(next, 3), digest) != 1 {
					t.Errorf("%d, then %d: the next one is not there", first, next)
				}
			}
		}
	}
}

// Vo1, Vo2: a vote comes to its place alone: the others have what they had.
func TestPutAlone(t *testing.T) {
	for server := 1; server <= maxServers; server++ {
		for client := 1; client <= maxClients; client++ {
			for odd := range 2 {
				v, m := newVotes(t, maxServers), newModel(maxServers)
				checkPut(t, v, m, server, of(10+odd, client), "alone")
				checkAll(t, v, m)
				v, m = newVotes(t, maxServers), newModel(maxServers)
				fill(t, v, m, 8)
				checkPut(t, v, m, server, of(10+odd, client), "alone")
				checkAll(t, v, m)
			}
		}
	}
}

// Vo2: each choice of servers: so many there are.
func TestCountServers(t *testing.T) {
	for n := 1; n <= maxServers; n++ {
		for which := range uint(1) << n {
			v := newVotes(t, n)
			for k := range n {
				digest := "others"
				if which>>k&1 != 0 {
					digest = "some"
				}
				if !v.Put(k+1, of(6, 2), digest) {
					t.Fatalf("%d of %d", k+1, n)
				}
			}
			some := bits.OnesCount(which)
			if v.Count(of(6, 2), "some") != some || v.Count(of(6, 2), "others") != n-some || v.Count(of(6, 2), "") != 0 {
				t.Errorf("of %d servers %b have voted: %d and %d", n, which, v.Count(of(6, 2), "some"), v.Count(of(6, 2), "others"))
			}
		}
	}
}

// Vo2: just this vote: no other number, client or digest.
func TestCountJust(t *testing.T) {
	for _, put := range someDigests {
		v, m := newVotes(t, 2), newModel(2)
		checkPut(t, v, m, 1, of(4, 2), put)
		checkPut(t, v, m, 2, of(4, 2), put)
		for _, digest := range someDigests {
			want := 0
			if digest == put {
				want = 2
			}
			if got := v.Count(of(4, 2), digest); got != want {
				t.Errorf("%q is put, of %q there are %d", put, digest, got)
			}
			for _, seq := range someSeqs {
				for _, client := range someInts {
					checkCount(t, v, m, of(seq, client), digest)
				}
			}
		}
	}
}

// Vo2: of what may not be there is none, also where places are empty.
func TestCountMayNot(t *testing.T) {
	empty, full, m := newVotes(t, 7), newVotes(t, 7), newModel(7)
	fill(t, full, m, 1)
	for _, seq := range someSeqs {
		for _, client := range someInts {
			if mayBe(of(seq, client)) {
				continue
			}
			for _, digest := range someDigests {
				if empty.Count(of(seq, client), digest) != 0 || full.Count(of(seq, client), digest) != 0 {
					t.Errorf("Count(%d of %d, %q)", seq, client, digest)
				}
			}
		}
	}
}

// Vo2: what is no place has no vote.
func TestAt(t *testing.T) {
	for n := 1; n <= maxServers; n++ {
		v, m := newVotes(t, n), newModel(n)
		fill(t, v, m, maxSeq-1)
		for _, server := range someInts {
			for _, client := range someInts {
				for _, odd := range someInts {
					checkAt(t, v, m, place{server, client, odd})
					s, digest := v.At(server, client, odd)
					there := 1 <= server && server <= n && 1 <= client && client <= 4 && (odd == 0 || odd == 1)
					if there != (s != api.Stamp{}) || there != (digest != "") || there && isOdd(s.Seq) != odd {
						t.Errorf("At(%d, %d, %d) of %d servers: %d, %q", server, client, odd, n, s, digest)
					}
				}
			}
		}
	}
}

// Vo2: a copy has the same votes, of as many servers; what is put to the one is not put to the other.
func TestCopy(t *testing.T) {
	for n := 1; n <= maxServers; n++ {
		v, m := newVotes(t, n), newModel(n)
		checkAll(t, v.Copy(), m)
		fill(t, v, m, 1)
		c, mc := v.Copy(), m.copied()
		if c == v {
			t.Fatal("the copy is what was copied")
		}
		checkAll(t, c, mc)
		fill(t, c, mc, 5)
		checkAll(t, v, m)
		checkAll(t, c, mc)
		again, ma := c.Copy(), mc.copied()
		fill(t, v, m, 3)
		checkAll(t, c, mc)
		fill(t, c, mc, 9)
		checkAll(t, v, m)
		checkAll(t, again, ma)
		fill(t, again, ma, 7)
		checkAll(t, v, m)
		checkAll(t, c, mc)
		checkAll(t, again, ma)
		for _, x := range []*votes.Votes{v, c, again} {
			if x.Put(n+1, of(100, 1), "d") || x.Put(0, of(100, 1), "d") || !x.Put(n, of(100, 1), "d") {
				t.Errorf("of %d servers", n)
			}
		}
	}
}

// Vo2: of votes that New did not give there is nothing, and nothing can be put to them.
func TestNotMade(t *testing.T) {
	for _, v := range []*votes.Votes{nil, {}, new(votes.Votes)} {
		for range 2 {
			for _, server := range someInts {
				for _, seq := range someSeqs {
					if v.Put(server, of(seq, 1), "d") || v.Count(of(seq, 1), "d") != 0 || v.Count(of(seq, 0), "") != 0 {
						t.Errorf("%d of %d", seq, server)
					}
				}
				for client := range 6 {
					for odd := -1; odd <= 2; odd++ {
						if s, digest := v.At(server, client, odd); s != (api.Stamp{}) || digest != "" {
							t.Errorf("At(%d, %d, %d): %d, %q", server, client, odd, s, digest)
						}
					}
				}
			}
			if v.Copy() != nil {
				t.Error("there is a copy")
			}
		}
	}
}

// Vo1, Vo2: many drawn votes, against the chapter's words, in copies, too.
func TestDrawn(t *testing.T) {
	r := newDrawer()
	for round := range 300 {
		n := 1 + round%maxServers
		v, m := newVotes(t, n), newModel(n)
		// Seqs grow slowly, so that many are refused, and many are not.
		for step := range 120 {
			s := of(step/8+r.IntN(8)-3, r.IntN(maxClients+2))
			checkPut(t, v, m, r.IntN(n+2), s, someDigests[r.IntN(len(someDigests))])
			checkCount(t, v, m, of(step/8+r.IntN(8)-3, 1+r.IntN(4)), someDigests[r.IntN(len(someDigests))])
			if r.IntN(20) == 0 {
				v = v.Copy()
			}
		}
		checkAll(t, v, m)
	}
}

// eachPuts calls see with each row of so many votes, of a few numbers and digests.
func eachPuts(size int, see func(l []ballot)) {
	l := make([]ballot, size)
	var from func(k int)
	from = func(k int) {
		if k == size {
			see(l)
			return
		}
		for seq := 1; seq <= 6; seq++ {
			for _, digest := range []string{"a", "b"} {
				l[k] = ballot{of(seq, 1), digest}
				from(k + 1)
			}
		}
	}
	from(0)
}

// Vo3: with one stamp a server vouches for one digest, ever; what is in a place stays till one greater by two, or more, comes.
func TestOneDigest(t *testing.T) {
	stays, goes := 0, 0
	eachPuts(4, func(l []ballot) {
		v := newVotes(t, 1)
		vouched := map[api.Stamp]string{}
		for k, b := range l {
			wasStamp, wasDigest := v.At(1, 1, isOdd(b.s.Seq))
			sideStamp, sideDigest := v.At(1, 1, 1-isOdd(b.s.Seq))
			put := v.Put(1, b.s, b.digest)
			if s, digest := v.At(1, 1, 1-isOdd(b.s.Seq)); s != sideStamp || digest != sideDigest {
				t.Errorf("%v: at %d what is of others has changed", l, k)
			}
			s, digest := v.At(1, 1, isOdd(b.s.Seq))
			if was, ok := vouched[s]; ok && was != digest {
				t.Errorf("%v: at %d there are two digests", l, k)
			}
			vouched[s] = digest
			if v.Count(s, "a")+v.Count(s, "b") != 1 {
				t.Errorf("%v: at %d %d is there %d times", l, k, s, v.Count(s, "a")+v.Count(s, "b"))
			}
			switch {
			case !put:
				stays++
				if s != wasStamp || digest != wasDigest || wasStamp.Seq < b.s.Seq {
					t.Errorf("%v: at %d it has not stayed", l, k)
				}
			case wasStamp != api.Stamp{}:
				goes++
				if s.Seq < wasStamp.Seq+2 {
					t.Errorf("%v: at %d %d has gone for %d", l, k, wasStamp, s)
				}
			}
		}
	})
	if stays == 0 || goes == 0 {
		t.Errorf("%d have stayed, %d have gone", stays, goes)
	}
}

// R3: a digest is not kept, with what it is a piece of: what is told of it is new.
func TestDigestNotKept(t *testing.T) {
	much := strings.Repeat("d", 1<<12)
	v := newVotes(t, 1)
	if !v.Put(1, of(1, 1), much[32:64]) {
		t.Fatal("it is not put")
	}
	_, digest := v.At(1, 1, 1)
	first, last := uintptr(unsafe.Pointer(unsafe.StringData(much))), uintptr(unsafe.Pointer(unsafe.StringData(much)))+uintptr(len(much))
	if at := uintptr(unsafe.Pointer(unsafe.StringData(digest))); digest != much[:32] || first <= at && at < last {
		t.Errorf("%q is kept", digest)
	}
}

// R4: what is told hangs on no other votes, and votes can be asked at once.
func TestAtOnce(t *testing.T) {
	v, m := newVotes(t, 7), newModel(7)
	fill(t, v, m, 1)
	done := make(chan bool)
	for k := range 8 {
		go func() {
			c := v.Copy()
			same := c.Put(1, of(11+2*k, 1), "x")
			for range 500 {
				s, digest := v.At(2, 3, 1)
				same = same && s == of(1, 3) && digest == "\x02\x03" && v.Count(of(2, 4), "\x07\x04") == 1 && c.Count(of(11+2*k, 1), "x") == 1 && v.Count(of(11+2*k, 1), "x") == 0
			}
			done <- same
		}()
	}
	for range 8 {
		if !<-done {
			t.Error("answers hang on others")
		}
	}
}

// Vo1, Vo2: anything: of each four bytes a vote, or ints that are taken as they are.
func FuzzVotes(f *testing.F) {
	f.Add(4, 1, 5, 1, []byte("\x01\x05\x01d\x01\x06\x01d\x01\x07\x01e"))
	f.Add(7, 7, maxSeq, 4, []byte("\x07\x01\x04\x00\x00\x00\x00\x00"))
	f.Add(math.MinInt, math.MaxInt, math.MinInt, math.MaxInt, []byte{})
	f.Fuzz(func(t *testing.T, n, server, seq, client int, bytes []byte) {
		if v, e := votes.New(n); (v != nil) != isOf(maxServers, n) || (e == api.OK) != (v != nil) || e != api.OK && e != api.ErrArg {
			t.Fatalf("New(%d): %v, %d", n, v, e)
		}
		// Most ints are no number of servers: cut down, they are.
		size := 1 + int(uint(n)%maxServers)
		v, m := newVotes(t, size), newModel(size)
		for len(bytes) >= 4 {
			checkPut(t, v, m, int(int8(bytes[0])), of(int(int8(bytes[1])), int(int8(bytes[2]))), string(bytes[3:4]))
			checkPut(t, v, m, int(bytes[0]&7), of(int(bytes[1]&15), int(bytes[2]&7)), string(bytes[3:3+bytes[3]&1]))
			bytes = bytes[4:]
		}
		for _, s := range []api.Stamp{of(seq, client), of(seq&(2*maxSeq-1), client&7)} {
			checkCount(t, v, m, s, "d")
			checkPut(t, v, m, server, s, "d")
			checkPut(t, v, m, server&7, s, "d")
		}
		checkAt(t, v, m, place{server, client, seq})
		checkAll(t, v, m)
		checkAll(t, v.Copy(), m)
	})
}
