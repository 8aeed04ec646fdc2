package reader_test

import (
	"fmt"
	"math"
	"math/big"
	"math/rand/v2"
	"reflect"
	"slices"
	"strings"
	"testing"
	"unsafe"

	"sacristy/api"
	"sacristy/group"
	"sacristy/nat"
	"sacristy/reader"
	"sacristy/server"
	"sacristy/tape"
	"sacristy/wire"
	"sacristy/writer"
)

const (
	maxOps = 1 << 20
	maxSeq = 1 << 40
)

// someInts are about the ends of liars, servers, kinds and operations, and numbers of which the lowest bits are one.
var someInts = []int{math.MinInt, math.MinInt + 1, -1 << 32, -256, -7, -4, -3, -2, -1, 0, 1, 2, 3, 4, 5, 6, 7, 8, 9, 10, 11, 255, 256, 257, 259, maxOps - 1, maxOps, maxOps + 1, 1 << 32, 1<<32 + 1, 1<<32 + 3, 1<<62 + 2, math.MaxInt - 1, math.MaxInt}

func given(t testing.TB, p api.Params) *group.Group {
	t.Helper()
	g, e := group.New(p)
	if e != api.OK {
		t.Fatal(e)
	}
	return g
}

func least(t testing.TB) *group.Group { return given(t, group.Least()) }

// tiny is a group whose Q has 10 bits: each number holds one byte.
func tiny(t testing.TB) *group.Group {
	return given(t, api.Params{Chain: []api.Link{{N: nat.Of(521)}, {N: nat.Of(16673), A: 2}}, G: nat.Of(2496)})
}

// greatest is a group whose Q has 255 bits: each number holds 31 bytes.
func greatest(t testing.TB) *group.Group {
	digits := []string{"65521", "1074282317", "576460780807958477", "649037107316878326410637878470751",
		"803469022129495137770981108568449884878255012103186407123779",
		"57896044618595922064977028148842967554791797017574897235716261396257767476009",
		"115792089237191844129954056297685935109583594035149794471432522792515534952019"}
	p := api.Params{G: nat.Of(4)}
	for k := range digits {
		n, _ := new(big.Int).SetString(digits[k], 10)
		p.Chain = append(p.Chain, api.Link{N: fromBig(n), A: 2 * min(k, 1)})
	}
	return given(t, p)
}

func newReader(t testing.TB, g *group.Group, liars, op int, key string) *reader.Reader {
	t.Helper()
	r, e := reader.New(g, liars, op, key)
	if r == nil || e != api.OK {
		t.Fatalf("New(%d, %d, %q): %v, %d", liars, op, key, r, e)
	}
	return r
}

// newDrawer gives numbers of a seed that stays the same.
func newDrawer(seed uint64) *rand.Rand { return rand.New(rand.NewPCG(25, seed)) }

// noise are so many bytes of a seed.
func noise(seed uint64, count int) string {
	r := newDrawer(seed)
	bytes := make([]byte, count)
	for k := range bytes {
		bytes[k] = byte(r.Uint32())
	}
	return string(bytes)
}

// draws are so many numbers below Q.
func draws(r *rand.Rand, g *group.Group, count int) []api.Nat {
	list := make([]api.Nat, count)
	for k := range list {
		sum := new(big.Int)
		for range 5 {
			sum.Lsh(sum, 64).Add(sum, new(big.Int).SetUint64(r.Uint64()))
		}
		list[k] = fromBig(sum.Mod(sum, toBig(g.Q())))
	}
	return list
}

// dealValue shares a value out, by random numbers of a seed.
func dealValue(t testing.TB, g *group.Group, liars int, value string, there bool, seed uint64) *dealt {
	t.Helper()
	numbers := numbersOf(g, value, there)
	return deal(t, g, liars, numbers, draws(newDrawer(seed), g, liars*len(numbers)))
}

func of(seq, client int) api.Stamp { return api.Stamp{Seq: seq, Client: client} }

const op, key = 4, "k"

// zero is what a server tells that holds nothing.
func zero() api.Msg { return api.Msg{Kind: api.MsgState, Op: op, Key: key} }

// bare is what a server tells that holds a stamp and a digest, without shares.
func bare(s api.Stamp, d *dealt) api.Msg {
	m := zero()
	m.Stamp, m.Digest = s, d.digest
	return m
}

// full is what a server tells that holds its shares, too.
func full(s api.Stamp, d *dealt, server int) api.Msg {
	m := bare(s, d)
	m.Matrix, m.Ys = d.m, d.at(server)
	return m
}

// wrong is what a server tells of which a share is not the one that is committed to.
func wrong(s api.Stamp, d *dealt, server int) api.Msg {
	m := full(s, d, server)
	last := len(m.Ys) - 1
	next := toBig(m.Ys[last])
	m.Ys[last] = fromBig(next.Add(next, big.NewInt(1)).Mod(next, toBig(d.g.Q())))
	return m
}

// other is what a server tells that has all of another matrix, but the digest of this one.
func other(s api.Stamp, d, o *dealt, server int) api.Msg {
	m := full(s, o, server)
	m.Digest = d.digest
	return m
}

// mixed is what a server tells that has its shares, but with another matrix.
func mixed(s api.Stamp, d, o *dealt, server int) api.Msg {
	m := full(s, d, server)
	if len(o.m) == len(d.m) {
		m.Matrix = o.m
	}
	return m
}

// bench is a reader, and its model.
type bench struct {
	t testing.TB
	r *reader.Reader
	o *model
	d []*dealt
}

func newBenchOf(t testing.TB, g *group.Group, liars int, d ...*dealt) *bench {
	t.Helper()
	return &bench{t, newReader(t, g, liars, op, key), newModel(g, liars, op, key, d), d}
}

// newBench is a reader, where these were dealt: "hello" twice, none, and what is the value of no one.
func newBench(t testing.TB, liars int) *bench {
	t.Helper()
	g := least(t)
	rubbish := []api.Nat{nat.Of(30 << 8), nat.Of(7)}
	return newBenchOf(t, g, liars, dealValue(t, g, liars, "hello", true, 1), dealValue(t, g, liars, "hello", true, 2), dealValue(t, g, liars, "", false, 3),
		deal(t, g, liars, rubbish, draws(newDrawer(4), g, 2*liars)))
}

// shown is what goes out, as text: the end, the kind, the operation, the key, the stamp, and which matrix it has, with the server's shares.
func (b *bench) shown(x api.Out) string {
	kinds := []string{"?", "listen", "leave", "state", "propose", "echo", "ready", "ack", "mend"}
	m := x.M
	text := fmt.Sprintf("%d %s %d %s %d.%d", x.To, kinds[m.Kind], m.Op, m.Key, m.Stamp.Seq, m.Stamp.Client)
	if len(m.Matrix) > 0 || len(m.Ys) > 0 {
		at := slices.IndexFunc(b.d, func(d *dealt) bool { return sameMatrix(d.m, m.Matrix) && slices.Equal(d.at(x.To), m.Ys) })
		text += fmt.Sprintf(" of %d", at)
	}
	if wire.Check(m) != api.OK {
		text += " MAY NOT BE"
	}
	return text
}

// check holds what goes out against texts, of which one that begins with * goes to all servers.
func (b *bench) check(outs []api.Out, want ...string) {
	b.t.Helper()
	var all, got []string
	for _, text := range want {
		tail, toServers := strings.CutPrefix(text, "*")
		if !toServers {
			all = append(all, text)
			continue
		}
		for to := 1; to <= b.o.n; to++ {
			all = append(all, fmt.Sprint(to)+tail)
		}
	}
	for _, x := range outs {
		got = append(got, b.shown(x))
	}
	if !slices.Equal(got, all) {
		b.t.Errorf("goes out:\n%q, not\n%q", got, all)
	}
}

// both lets the reader and the model take a message, and holds all against each other.
func (b *bench) both(from int, m api.Msg) ([]api.Out, bool) {
	b.t.Helper()
	outs, done := b.r.Step(from, m)
	wantOuts, wantDone := b.o.step(from, m)
	if !sameOuts(outs, wantOuts) || done != wantDone {
		b.t.Fatalf("%v of %d: %v, %v, not %v, %v", m, from, outs, done, wantOuts, wantDone)
	}
	b.state()
	return outs, done
}

// state holds all that is to be asked against the model.
func (b *bench) state() {
	b.t.Helper()
	if got := b.r.Start(); !sameOuts(got, b.o.start()) {
		b.t.Fatalf("Start(): %v", got)
	}
	if got := b.r.Tick(); !sameOuts(got, b.o.tick()) {
		b.t.Fatalf("Tick(): %v, not %v", got, b.o.tick())
	}
	if x, is := b.r.Result(); x != b.o.result || is != b.o.over {
		b.t.Fatalf("Result(): %v, %v, not %v, %v", x, is, b.o.result, b.o.over)
	}
}

// step takes messages of a server by which it is not done.
func (b *bench) step(from int, list ...api.Msg) {
	b.t.Helper()
	for _, m := range list {
		if outs, done := b.both(from, m); len(outs) != 0 || done {
			b.t.Errorf("%v of %d: %v, %v", m, from, outs, done)
		}
	}
}

// last takes a message by which it is done, with what was read.
func (b *bench) last(from int, m api.Msg, x reader.Result, want ...string) {
	b.t.Helper()
	outs, done := b.both(from, m)
	if !done {
		b.t.Errorf("%v of %d: it is not done", m, from)
	}
	b.check(outs, want...)
	if got, is := b.r.Result(); got != x || !is {
		b.t.Errorf("Result(): %v, %v, not %v", got, is, x)
	}
}

// still looks whether a message does nothing, and changes nothing.
func (b *bench) still(from int, m api.Msg) {
	b.t.Helper()
	was := *b.r
	if outs, done := b.r.Step(from, m); len(outs) != 0 || done {
		b.t.Errorf("%v of %d: %v, %v", m, from, outs, done)
	}
	if !reflect.DeepEqual(was, *b.r) {
		b.t.Errorf("%v of %d: something changed", m, from)
	}
}

// hello is what was read of the first value, or the second one.
func hello(s api.Stamp) reader.Result { return reader.Result{Value: "hello", There: true, Stamp: s} }

const leaves = "* leave 4 k 0.0"

// Rd1: only of these liars and operations there is a reader.
func TestNew(t *testing.T) {
	g := least(t)
	for _, liars := range someInts {
		for _, op := range someInts {
			want := api.ErrArg
			if 1 <= liars && liars <= 2 && 1 <= op && op <= maxOps {
				want = api.OK
			}
			r, e := reader.New(g, liars, op, "key")
			if e != want || (r != nil) != (want == api.OK) {
				t.Fatalf("New(%d, %d): %v, %d, not %d", liars, op, r, e, want)
			}
			if r == nil {
				continue
			}
			b := &bench{t, r, newModel(g, liars, op, "key", nil), nil}
			b.state()
			b.check(r.Start(), fmt.Sprintf("* listen %d key 0.0", op))
		}
	}
}

// Rd1: without a group there is no reader.
func TestNewWithoutGroup(t *testing.T) {
	refused, _ := group.New(api.Params{})
	for _, g := range []*group.Group{nil, {}, refused} {
		for liars := range 4 {
			if r, e := reader.New(g, liars, 1, "k"); r != nil || e != api.ErrArg {
				t.Errorf("%v, %d", r, e)
			}
		}
	}
}

// Rd1: a key has 1 to 8 bytes, of whatever kind.
func TestNewKeys(t *testing.T) {
	g := least(t)
	for length := range 300 {
		for _, char := range []string{"\x00", "k", "\xff"} {
			text := strings.Repeat(char, length)
			want := api.ErrArg
			if 1 <= length && length <= 8 {
				want = api.OK
			}
			r, e := reader.New(g, 1, 1, text)
			if e != want || (r != nil) != (want == api.OK) {
				t.Errorf("key %q: %v, %d", text, r, e)
			}
			if r != nil && r.Start()[0].M.Key != text {
				t.Errorf("key %q: %v", text, r.Start())
			}
		}
	}
}

// Rd2: the example: three servers hold nothing: there is no value.
func TestExample(t *testing.T) {
	b := newBench(t, 1)
	b.check(b.r.Start(), "* listen 4 k 0.0")
	b.step(4, zero())
	b.step(2, zero())
	b.last(1, zero(), reader.Result{}, leaves)
	b.check(b.r.Tick())
	b.check(b.r.Start(), "* listen 4 k 0.0")
}

// Rd2: with two liars, five servers that hold nothing.
func TestNothingOfFive(t *testing.T) {
	b := newBench(t, 2)
	b.step(1, full(of(1, 1), b.d[0], 1))
	for _, from := range []int{7, 3, 4, 7, 3, 2} {
		b.step(from, zero())
	}
	b.check(b.r.Tick(), "* listen 4 k 0.0")
	b.last(6, zero(), reader.Result{}, leaves)
}

// Rd2: with one liar, who has what: those who lack shares, or have other ones, are given theirs.
func TestOneLiar(t *testing.T) {
	s := of(7, 3)
	b := newBench(t, 1)
	b.step(1, zero(), bare(s, b.d[0]))
	b.step(2, zero())
	b.step(3, full(s, b.d[0], 3))
	b.check(b.r.Tick(), "* listen 4 k 0.0")
	// It goes on waiting: three vouch for it, but only one has shares.
	b.step(4, bare(s, b.d[0]))
	b.check(b.r.Tick(), "* listen 4 k 0.0")
	b.last(4, full(s, b.d[0], 4), hello(s), "1 mend 4 k 7.3 of 0", leaves)
	b.check(b.r.Tick())

	// Wrong shares do not count, and are given back; who has another stamp gets nothing.
	b = newBench(t, 1)
	b.step(1, wrong(s, b.d[0], 1))
	b.step(2, full(s, b.d[0], 2))
	b.step(3, full(of(6, 3), b.d[0], 3))
	b.step(4, bare(s, b.d[0]))
	b.last(4, full(s, b.d[0], 4), hello(s), "1 mend 4 k 7.3 of 0", leaves)

	// Nobody lacks anything, but the one that lies.
	b = newBench(t, 1)
	b.step(4, other(s, b.d[0], b.d[1], 4))
	b.step(1, full(s, b.d[0], 1))
	b.last(2, full(s, b.d[0], 2), hello(s), "4 mend 4 k 7.3 of 0", leaves)
	b = newBench(t, 1)
	b.step(4, full(s, b.d[0], 4))
	b.step(1, full(s, b.d[0], 1))
	b.last(2, full(s, b.d[0], 2), hello(s), leaves)

	// Right shares do not count beside another matrix.
	b = newBench(t, 1)
	b.step(1, mixed(s, b.d[0], b.d[1], 1))
	b.step(2, bare(s, b.d[0]))
	b.step(3, full(s, b.d[0], 3))
	b.last(2, full(s, b.d[0], 2), hello(s), "1 mend 4 k 7.3 of 0", leaves)

	// One that lies tells the first matrix, by the servers' numbers: it has not the digest.
	b = newBench(t, 1)
	b.step(1, other(s, b.d[0], b.d[1], 1))
	b.step(2, bare(s, b.d[0]))
	b.step(3, bare(s, b.d[0]))
	b.step(3, full(s, b.d[0], 3))
	b.last(2, full(s, b.d[0], 2), hello(s), "1 mend 4 k 7.3 of 0", leaves)
}

// Rd2: with two liars.
func TestTwoLiars(t *testing.T) {
	s := of(7, 3)
	b := newBench(t, 2)
	b.step(1, other(s, b.d[1], b.d[0], 1))
	b.step(7, wrong(s, b.d[1], 7))
	b.step(4, full(s, b.d[1], 4))
	b.step(5, full(s, b.d[1], 5))
	b.step(2, zero())
	b.step(3, bare(s, b.d[1]), bare(s, b.d[1]))
	b.step(6, bare(of(7, 2), b.d[1]), bare(s, b.d[1]))
	b.last(3, full(s, b.d[1], 3), hello(s), "1 mend 4 k 7.3 of 1", "6 mend 4 k 7.3 of 1", "7 mend 4 k 7.3 of 1", leaves)
}

// Rd2: none that was written, and numbers of no value, are read as no value, with their stamp.
func TestNoValue(t *testing.T) {
	for liars := 1; liars <= 2; liars++ {
		for _, which := range []int{2, 3} {
			s := of(maxSeq, 4)
			b := newBench(t, liars)
			for from := 1; from <= 2*liars; from++ {
				b.step(from, full(s, b.d[which], from))
			}
			b.last(3*liars+1, bare(s, b.d[which]), reader.Result{Stamp: s}, fmt.Sprintf("%d mend 4 k %d.4 of %d", 3*liars+1, maxSeq, which), leaves)
		}
	}
}

// Rd2: a digest for which no matrix was told, or none that may be, is waited at.
func TestNoMatrix(t *testing.T) {
	s := of(7, 3)
	b := newBench(t, 1)
	nobody := &dealt{g: b.o.g, t: 1, m: api.Matrix{{{7}, {9}}}, polys: [][]api.Nat{{{1}, {2}}}}
	nobody.digest = digestOf(nobody.m)
	empty := &dealt{digest: digestOf(nil)}
	wide := dealValue(t, b.o.g, 2, "hello", true, 1)
	for _, d := range []*dealt{nobody, empty, wide} {
		b := newBench(t, 1)
		for from := 1; from <= 4; from++ {
			b.step(from, bare(s, d))
		}
		for from := 1; from <= 4 && d != empty; from++ {
			b.step(from, full(s, d, from))
		}
		// What is later is read, all the same.
		b.step(1, full(of(8, 1), b.d[0], 1))
		b.step(2, full(of(8, 1), b.d[0], 2))
		b.last(4, bare(of(8, 1), b.d[0]), hello(of(8, 1)), "4 mend 4 k 8.1 of 0", leaves)
	}
}

// Rd2: what comes in the place of what a server told ahead.
func TestLatest(t *testing.T) {
	s := of(7, 2)
	b := newBench(t, 1)
	first, second := b.d[0], b.d[1]
	stays, goes := true, false
	for _, c := range []struct {
		name      string
		was, next api.Msg
		stays     bool
	}{
		{"a later number", full(s, second, 1), full(of(8, 1), first, 1), goes},
		{"an earlier number", full(of(8, 1), first, 1), full(s, second, 1), stays},
		{"a later client", full(s, second, 1), full(of(7, 3), first, 1), goes},
		{"an earlier client", full(of(7, 3), first, 1), full(s, second, 1), stays},
		{"a later one without shares", full(s, first, 1), bare(of(7, 3), first), goes},
		{"an earlier one with shares", bare(of(7, 3), first), full(s, first, 1), stays},
		{"another digest", bare(s, first), full(s, second, 1), stays},
		{"another digest, both with shares", full(s, first, 1), full(s, second, 1), stays},
		{"shares", bare(s, first), full(s, first, 1), goes},
		{"shares that do not hold", bare(s, first), wrong(s, first, 1), goes},
		{"no shares any more", full(s, first, 1), bare(s, first), stays},
		{"other shares", full(s, first, 1), wrong(s, first, 1), stays},
		{"right shares behind wrong ones", wrong(s, first, 1), full(s, first, 1), stays},
		{"right shares behind others", other(s, first, second, 1), full(s, first, 1), stays},
		{"something behind nothing", zero(), bare(of(1, 1), first), goes},
		{"nothing behind something", bare(of(1, 1), first), zero(), stays},
		{"nothing behind nothing", zero(), zero(), stays},
	} {
		b := newBench(t, 1)
		b.step(1, c.was)
		if c.stays {
			b.still(1, c.next)
			b.step(1, c.next)
		} else {
			before := *b.r
			b.step(1, c.next)
			if reflect.DeepEqual(before, *b.r) {
				t.Errorf("%s: it was not taken", c.name)
			}
			b.still(1, c.next)
		}
		// What is the latest shows in what comes of two others that tell the same.
		is := c.next
		if c.stays {
			is = c.was
		}
		which := 0
		if is.Digest == second.digest {
			which = 1
		}
		d := b.d[which]
		if is.Stamp.Seq == 0 {
			b.step(2, zero())
			b.last(3, zero(), reader.Result{}, leaves)
			continue
		}
		var want []string
		if !slices.Equal(is.Ys, d.at(1)) || !sameMatrix(is.Matrix, d.m) {
			want = []string{fmt.Sprintf("1 mend 4 k %d.%d of %d", is.Stamp.Seq, is.Stamp.Client, which)}
		}
		b.step(2, full(is.Stamp, d, 2))
		b.last(3, full(is.Stamp, d, 3), hello(is.Stamp), append(want, leaves)...)
	}
}

// Rd2: a stamp alone, or a digest alone, does not do: enough servers are to have both.
func TestBothVouched(t *testing.T) {
	for liars := 1; liars <= 2; liars++ {
		b := newBench(t, liars)
		s := of(7, 2)
		for from := 1; from <= 3*liars+1; from++ {
			switch {
			case from > 2*liars+1:
			case from%2 == 0:
				b.step(from, full(s, b.d[0], from))
			default:
				b.step(from, full(s, b.d[1], from))
			}
		}
		b = newBench(t, liars)
		for from := 1; from <= 3*liars+1; from++ {
			b.step(from, full(of(7, 1+from%2), b.d[0], from))
		}
		b = newBench(t, liars)
		for from := 1; from <= 3*liars+1; from++ {
			b.step(from, full(of(7+from%2, 2), b.d[0], from))
		}
		// With 0 those are not mixed up that told nothing.
		b = newBench(t, liars)
		for from := 1; from <= 2*liars; from++ {
			b.step(from, zero())
		}
	}
}

// orders are all orders of so many.
func orders(count int) [][]int {
	if count == 0 {
		return [][]int{{}}
	}
	var all [][]int
	for _, short := range orders(count - 1) {
		for at := range count {
			all = append(all, slices.Insert(slices.Clone(short), at, count-1))
		}
	}
	return all
}

// Rd2: whatever four servers tell of a few states, in many orders.
func TestAllStates(t *testing.T) {
	b := newBench(t, 1)
	s, a, c := of(7, 3), b.d[0], b.d[1]
	tell := func(what, from int) api.Msg {
		switch what {
		case 1:
			return zero()
		case 2:
			return bare(s, a)
		case 3:
			return full(s, a, from)
		case 4:
			return wrong(s, a, from)
		case 5:
			return other(s, a, c, from)
		case 6:
			return full(s, c, from)
		}
		return full(of(8, 1), a, from)
	}
	var told [4][8]api.Msg
	for from := range 4 {
		for what := range 8 {
			told[from][what] = tell(what, from+1)
		}
	}
	all, ends := orders(4), 0
	for code := range 8 * 8 * 8 * 8 {
		for k := range 3 {
			b := newBenchOf(t, b.o.g, 1, b.d...)
			for _, from := range all[(7*code+8*k)%len(all)] {
				// 0: it tells nothing.
				if what := code >> (3 * from) % 8; what > 0 {
					b.both(from+1, told[from][what])
				}
			}
			if b.o.over {
				ends++
			}
		}
	}
	if ends < 500 {
		t.Errorf("but %d ended", ends)
	}
}

// Rd2: of each length of values, in groups of all sizes, of any t + 1 servers' shares; who else vouches gets theirs.
func TestValues(t *testing.T) {
	for _, g := range []*group.Group{tiny(t), least(t), given(t, group.Great()), greatest(t)} {
		for liars := 1; liars <= 2; liars++ {
			for length := -1; length <= 24; length++ {
				value := noise(uint64(length+1), max(length, 0))
				checkValue(t, g, liars, value, length >= 0, uint64(50+length))
			}
		}
	}
}

func checkValue(t *testing.T, g *group.Group, liars int, value string, there bool, seed uint64) {
	t.Helper()
	d, s := dealValue(t, g, liars, value, there, seed), of(int(seed), 1+int(seed)%4)
	order := newDrawer(seed).Perm(3*liars + 1)
	b := newBenchOf(t, g, liars, d)
	has := order[:liars+1]
	for _, k := range order[1 : 2*liars+1] {
		if slices.Contains(has, k) {
			b.step(k+1, full(s, d, k+1))
		} else {
			b.step(k+1, bare(s, d))
		}
	}
	var want []string
	for to := 1; to <= b.o.n; to++ {
		if at := slices.Index(order, to-1); at > liars && at <= 2*liars {
			want = append(want, fmt.Sprintf("%d mend 4 k %d.%d of 0", to, s.Seq, s.Client))
		}
	}
	first := order[0] + 1
	b.last(first, full(s, d, first), reader.Result{Value: value, There: there, Stamp: s}, append(want, leaves)...)
}

// Rd2: numbers about those of a value: what they lead to is the value, or that there is none.
func TestNumbers(t *testing.T) {
	r := newDrawer(9)
	values := 0
	for _, g := range []*group.Group{tiny(t), least(t)} {
		for range 300 {
			numbers := numbersOf(g, noise(r.Uint64(), r.IntN(8)), r.IntN(6) > 0)
			switch r.IntN(4) {
			case 0:
				numbers[r.IntN(len(numbers))] = draws(r, g, 1)[0]
			case 1:
				numbers = append(numbers, api.Nat{})
			case 2:
				numbers = numbers[:max(1, len(numbers)-1)]
			}
			d, s := deal(t, g, 1, numbers, draws(r, g, len(numbers))), of(3, 2)
			b := newBenchOf(t, g, 1, d)
			for from := 1; from <= 2; from++ {
				b.step(from, full(s, d, from))
			}
			if _, done := b.both(3, full(s, d, 3)); !done {
				t.Error("it is not done")
			}
			if x, _ := b.r.Result(); x.There {
				values++
			}
		}
	}
	if values < 100 || values > 500 {
		t.Errorf("%d had a value", values)
	}
}

// others looks whether messages do nothing that are not such that a reader takes.
func (b *bench) others() {
	b.t.Helper()
	s, d := of(7, 3), b.d[0]
	for _, x := range []api.Msg{zero(), bare(s, d), full(s, d, 3)} {
		for _, from := range someInts {
			if from < 1 || from > b.o.n {
				b.still(from, x)
			}
		}
		for _, kind := range someInts {
			if kind == api.MsgState {
				continue
			}
			y := x
			// All that may be of this kind is among these.
			for _, y.Op = range []int{0, op} {
				for _, y.Stamp = range []api.Stamp{{}, s} {
					for _, y.Digest = range []string{"", d.digest} {
						for _, shares := range []bool{false, true} {
							y.Kind, y.Matrix, y.Ys = kind, nil, nil
							if shares {
								y.Matrix, y.Ys = d.m, d.at(3)
							}
							b.still(3, y)
						}
					}
				}
			}
		}
		for _, y := range []int{op - 1, op + 1, -op, 0, op + 256, op + 1<<32, maxOps, maxOps + 1, math.MinInt} {
			z := x
			z.Op = y
			b.still(3, z)
		}
		for _, y := range []string{"", "K", "kk", "k\x00", "\x00k", "123456789", strings.Repeat("k", 300)} {
			z := x
			z.Key = y
			b.still(3, z)
		}
	}
	for _, change := range []func(m *api.Msg){
		func(m *api.Msg) { m.Stamp.Seq = maxSeq + 1 },
		func(m *api.Msg) { m.Stamp.Seq = -1 },
		func(m *api.Msg) { m.Stamp.Seq = 0 },
		func(m *api.Msg) { m.Stamp.Client = 0 },
		func(m *api.Msg) { m.Stamp.Client = 5 },
		func(m *api.Msg) { m.Stamp = of(0, 0) },
		func(m *api.Msg) { m.Digest = "" },
		func(m *api.Msg) { m.Digest = m.Digest[1:] },
		func(m *api.Msg) { m.Digest += "d" },
		func(m *api.Msg) { m.Matrix = nil },
		func(m *api.Msg) { m.Ys = nil },
		func(m *api.Msg) { m.Ys = m.Ys[1:] },
		func(m *api.Msg) { m.Ys = append(m.Ys, api.Nat{}) },
		func(m *api.Msg) { m.Matrix = slices.Clone(m.Matrix); m.Matrix[1] = m.Matrix[1][1:] },
		func(m *api.Msg) { m.Matrix = m.Matrix[:1] },
		func(m *api.Msg) { m.Matrix = api.Matrix{{}, {}} },
		func(m *api.Msg) { m.Matrix, m.Ys = make(api.Matrix, 26), make([]api.Nat, 26) },
	} {
		m := full(s, d, 3)
		change(&m)
		b.still(3, m)
	}
}

// Rd2: what it is not to take changes nothing, whether it waits or is done; what it is to take is taken behind it, as if nothing had been.
func TestNotToTake(t *testing.T) {
	b := newBench(t, 1)
	s := of(7, 3)
	b.others()
	b.step(3, zero())
	b.others()
	b.step(1, bare(s, b.d[0]))
	b.step(4, full(s, b.d[0], 4))
	b.others()
	b.last(3, full(s, b.d[0], 3), hello(s), "1 mend 4 k 7.3 of 0", leaves)
	b.others()
	for from := range 6 {
		for _, m := range []api.Msg{zero(), bare(s, b.d[0]), full(s, b.d[0], 1), full(of(8, 1), b.d[1], max(1, from)), full(of(6, 1), b.d[1], max(1, from))} {
			b.still(from, m)
		}
	}
	b.state()
	b = newBench(t, 2)
	b.others()
	for _, from := range []int{1, 7, 2, 6} {
		b.step(from, zero())
	}
	b.others()
	b.last(3, zero(), reader.Result{}, leaves)
	b.others()
	for from := range 9 {
		b.still(from, zero())
		b.still(from, full(s, b.d[0], max(1, from)))
	}
}

// Rd2: a share that does not hold stays out, also one that is no number of the field, or another server's.
func TestSharesOfOthers(t *testing.T) {
	s := of(7, 3)
	for server := 1; server <= 4; server++ {
		b := newBench(t, 1)
		right, q := b.d[0].at(server), toBig(b.o.g.Q())
		more := slices.Clone(right)
		more[0] = fromBig(new(big.Int).Add(toBig(right[0]), q))
		for _, ys := range [][]api.Nat{b.d[0].at(server%4 + 1), b.d[0].at(5), b.d[1].at(server), more, {right[1], right[0]}} {
			b := newBench(t, 1)
			m := full(s, b.d[0], server)
			m.Ys = ys
			b.step(server, m)
			var others []int
			for k := 1; k <= 4; k++ {
				if k != server {
					others = append(others, k)
				}
			}
			b.step(others[0], full(s, b.d[0], others[0]))
			b.step(others[1], bare(s, b.d[0]))
			mended := []int{server, others[1]}
			slices.Sort(mended)
			b.last(others[2], full(s, b.d[0], others[2]), hello(s), fmt.Sprintf("%d mend 4 k 7.3 of 0", mended[0]), fmt.Sprintf("%d mend 4 k 7.3 of 0", mended[1]), leaves)
		}
	}
}

// Rd1: Start, Tick and Result change nothing, however often they are called.
func TestAsksChangeNothing(t *testing.T) {
	b := newBench(t, 1)
	s := of(7, 3)
	ask := func() {
		t.Helper()
		was := *b.r
		for range 5 {
			b.r.Start()
			b.r.Tick()
			b.r.Result()
			b.state()
		}
		if !reflect.DeepEqual(was, *b.r) {
			t.Error("something changed")
		}
	}
	ask()
	for from := 1; from <= 3; from++ {
		b.both(from, full(s, b.d[0], from))
		ask()
	}
}

// R1: a reader that New did not give tells nothing.
func TestNotMade(t *testing.T) {
	d := newBench(t, 1).d[0]
	for _, r := range []*reader.Reader{nil, {}, new(reader.Reader)} {
		for range 2 {
			if len(r.Start()) != 0 || len(r.Tick()) != 0 {
				t.Error("something goes out")
			}
			if x, is := r.Result(); x != (reader.Result{}) || is {
				t.Error("there is a result")
			}
			for _, from := range someInts {
				for _, m := range []api.Msg{{}, {Kind: api.MsgState}, zero(), bare(of(1, 1), d), full(of(1, 1), d, 1), {Kind: api.MsgState, Key: key}} {
					if outs, done := r.Step(from, m); len(outs) != 0 || done {
						t.Errorf("%v of %d: %v, %v", m, from, outs, done)
					}
				}
			}
		}
	}
}

// R1: a group that is written over behind New's back does not stop the program.
func TestGroupWrittenOver(t *testing.T) {
	for _, over := range []*group.Group{{}, tiny(t), given(t, group.Other()), greatest(t)} {
		for _, dealer := range []*group.Group{least(t), over} {
			if dealer.Size() == 0 {
				continue
			}
			d := dealValue(t, dealer, 1, "hello", true, 1)
			for at := range 4 {
				g := least(t)
				r := newReader(t, g, 1, op, key)
				for from := 1; from <= 4; from++ {
					if from > at {
						*g = *over
					}
					r.Step(from, full(of(7, 3), d, from))
					r.Tick()
					r.Result()
				}
				r.Start()
			}
		}
	}
}

// ruin writes over all memory of a message, also behind its lists' ends.
func ruin(m api.Msg) {
	for _, row := range m.Matrix[:cap(m.Matrix)] {
		clear(row[:cap(row)])
	}
	clear(m.Matrix[:cap(m.Matrix)])
	clear(m.Ys[:cap(m.Ys)])
}

// roomy is a message whose lists have room behind their ends, in which something lies.
func roomy(m api.Msg) api.Msg {
	m = copied(m)
	junk := api.Nat{7, 7, 7, 7}
	for k, row := range m.Matrix {
		m.Matrix[k] = append(slices.Clone(row), junk, junk)[:len(row)]
	}
	m.Matrix = append(m.Matrix, []api.Nat{junk}, nil)[:len(m.Matrix)]
	m.Ys = append(m.Ys, junk, junk)[:len(m.Ys)]
	return m
}

// whole are a message's lists, with what lies behind their ends.
func whole(m api.Msg) (api.Matrix, []api.Nat) {
	var rows api.Matrix
	for _, row := range m.Matrix[:cap(m.Matrix)] {
		rows = append(rows, slices.Clone(row[:cap(row)]))
	}
	return rows, slices.Clone(m.Ys[:cap(m.Ys)])
}

// R3: what is told is new memory, and no two lists of it share any; what is handed in is neither kept nor changed.
func TestMemory(t *testing.T) {
	s := of(7, 3)
	for liars := 1; liars <= 2; liars++ {
		b := newBench(t, liars)
		check := func(got, want []api.Out) {
			t.Helper()
			if len(got) != len(want) {
				t.Fatalf("%d go out, not %d", len(got), len(want))
			}
			for k := range got {
				if !sameOuts(got[k:], want[k:]) {
					t.Fatalf("goes out: %v, not %v", got[k:], want[k:])
				}
				for j, row := range got[k].M.Matrix {
					if !slices.Equal(row, want[k].M.Matrix[j]) {
						t.Fatal("rows share memory")
					}
					clear(row[:cap(row)])
				}
				if !slices.Equal(got[k].M.Ys, want[k].M.Ys) {
					t.Fatal("shares and rows share memory")
				}
				ruin(got[k].M)
			}
			clear(got[:cap(got)])
		}
		step := func(from int, m api.Msg) {
			t.Helper()
			in := roomy(m)
			rows, ys := whole(in)
			got, _ := b.r.Step(from, in)
			want, _ := b.o.step(from, m)
			if nowRows, nowYs := whole(in); !sameMatrix(rows, nowRows) || !slices.Equal(ys, nowYs) {
				t.Error("what is handed in is changed")
			}
			ruin(in)
			check(got, want)
			check(b.r.Start(), b.o.start())
			check(b.r.Tick(), b.o.tick())
			check(b.r.Tick(), b.o.tick())
		}
		for from := 1; from <= liars; from++ {
			step(from, bare(s, b.d[0]))
			step(3*liars+2-from, wrong(s, b.d[0], 3*liars+2-from))
		}
		for from := liars + 1; from <= 2*liars+1; from++ {
			step(from, full(s, b.d[0], from))
		}
		if x, is := b.r.Result(); x != hello(s) || !is {
			t.Errorf("%v, %v", x, is)
		}
	}
}

// R3: the key, and digests, are not kept as they are handed in: they may be a piece of much more.
func TestTextsCopied(t *testing.T) {
	b := newBench(t, 1)
	long := strings.Repeat("k", 50) + b.d[0].digest + strings.Repeat("k", 50)
	isPiece := func(text string) bool {
		from, at := uintptr(unsafe.Pointer(unsafe.StringData(long))), uintptr(unsafe.Pointer(unsafe.StringData(text)))
		return at >= from && at < from+uintptr(len(long))
	}
	var look func(v reflect.Value)
	look = func(v reflect.Value) {
		switch v.Kind() {
		case reflect.String:
			if isPiece(v.String()) {
				t.Errorf("the reader keeps the piece %q", v)
			}
		case reflect.Map:
			for _, k := range v.MapKeys() {
				look(v.MapIndex(k))
			}
		case reflect.Struct:
			for k := range v.NumField() {
				look(v.Field(k))
			}
		}
	}
	r := newReader(t, b.o.g, 1, op, long[:8])
	for from := 1; from <= 3; from++ {
		m := full(of(7, 3), b.d[0], from)
		m.Key, m.Digest = long[:8], long[50:82]
		outs, done := r.Step(from, m)
		look(reflect.ValueOf(*r))
		for _, o := range slices.Concat(outs, r.Start(), r.Tick()) {
			if isPiece(o.M.Key) || o.M.Key != "kkkkkkkk" {
				t.Errorf("a message has the piece %q", o.M.Key)
			}
		}
		if done != (from == 3) {
			t.Errorf("done: %v", done)
		}
	}
}

// R4: the same calls tell the same, and readers, and copies of one, go their own ways.
func TestAlike(t *testing.T) {
	b := newBench(t, 1)
	s := of(7, 3)
	idle, twin := newReader(t, b.o.g, 1, op, key), newReader(t, least(t), 1, op, key)
	b.step(1, full(s, b.d[0], 1))
	b.step(2, full(s, b.d[0], 2))
	early := *b.r
	b.last(3, full(s, b.d[0], 3), hello(s), leaves)
	if x, is := early.Result(); is || x != (reader.Result{}) || len(early.Tick()) != 4 {
		t.Error("one shows in its copy")
	}
	late := early
	if outs, done := early.Step(4, bare(s, b.d[0])); !done || len(outs) != 5 {
		t.Errorf("the copy: %v, %v", outs, done)
	}
	if outs, done := late.Step(3, zero()); done || len(outs) != 0 {
		t.Errorf("the copy's copy: %v, %v", outs, done)
	}
	half := late
	half.Step(4, zero())
	if outs, done := late.Step(4, full(s, b.d[0], 4)); !done || len(outs) != 4 {
		t.Errorf("the copy's copy: %v, %v", outs, done)
	}
	if x, is := idle.Result(); is || x != (reader.Result{}) || !sameOuts(idle.Tick(), idle.Start()) {
		t.Error("one shows in another one")
	}
	for from := 1; from <= 3; from++ {
		x, is := idle.Step(from, bare(s, b.d[0]))
		y, are := twin.Step(from, bare(s, b.d[0]))
		if !sameOuts(x, y) || is != are {
			t.Error("they are not alike")
		}
		x, is = idle.Step(from, full(s, b.d[0], from))
		y, are = twin.Step(from, full(s, b.d[0], from))
		if !sameOuts(x, y) || is != are {
			t.Error("they are not alike")
		}
	}
	x, _ := idle.Result()
	if y, is := twin.Result(); x != y || !is {
		t.Error("they did not read alike")
	}
}

// drawn is a message, and whom it is from: mostly such that may be, of a few stamps and deals, and often of the one that most hold.
func drawn(r *rand.Rand, b *bench, most api.Stamp, which int) (int, api.Msg) {
	from := 1 + r.IntN(b.o.n)
	s, d := most, b.d[which]
	if r.IntN(6) == 0 {
		s = of(1+r.IntN(3), 1+r.IntN(3))
	}
	if r.IntN(8) == 0 {
		d = b.d[r.IntN(len(b.d))]
	}
	var m api.Msg
	switch what := r.IntN(12); {
	case what == 0 || s.Seq == 0:
		m = zero()
	case what < 4:
		m = bare(s, d)
	case what == 4:
		m = wrong(s, d, from)
	case what == 5:
		m = other(s, d, b.d[r.IntN(len(b.d))], from)
	case what == 6:
		m = mixed(s, d, b.d[r.IntN(len(b.d))], from)
	default:
		m = full(s, d, from)
	}
	switch r.IntN(40) {
	case 0:
		from = r.IntN(b.o.n+6) - 1
	case 1:
		m.Op += r.IntN(3) - 1
	case 2:
		m.Key = []string{"", "q", "kk"}[r.IntN(3)]
	case 3:
		m.Kind = r.IntN(10)
	case 4:
		m.Digest = m.Digest[min(1, len(m.Digest)):]
	case 5:
		m.Ys = m.Ys[min(1, len(m.Ys)):]
	case 6:
		m.Ys = slices.Clone(m.Ys)
		slices.Reverse(m.Ys)
	}
	return from, m
}

// Rd1, Rd2: many drawn messages, against the chapter's words.
func TestDrawn(t *testing.T) {
	var benches []*bench
	for liars := 1; liars <= 2; liars++ {
		benches = append(benches, newBench(t, liars))
		g := tiny(t)
		benches = append(benches, newBenchOf(t, g, liars, dealValue(t, g, liars, "a", true, 1), dealValue(t, g, liars, "", false, 2), deal(t, g, liars, []api.Nat{{400}}, make([]api.Nat, liars))))
	}
	ends := map[string]int{}
	for round := range 4000 {
		r := newDrawer(uint64(100 + round))
		b := benches[round%len(benches)]
		b = newBenchOf(t, b.o.g, b.o.t, b.d...)
		most, which := of(r.IntN(4), 1+r.IntN(3)), r.IntN(len(b.d))
		mends, end := 0, "waits"
		for range 1 + r.IntN(40) {
			outs, done := b.both(drawn(r, b, most, which))
			if done {
				x, _ := b.r.Result()
				mends, end = len(outs)-b.o.n, fmt.Sprint("value ", x.There, ", stamp ", x.Stamp.Seq > 0)
			}
		}
		ends[end]++
		ends[fmt.Sprint(mends, " mended")]++
	}
	for _, end := range []string{"waits", "value true, stamp true", "value false, stamp true", "value false, stamp false", "1 mended", "2 mended", "3 mended"} {
		if ends[end] < 50 {
			t.Errorf("but few ended so: %s: %v", end, ends)
		}
	}
}

// message is one that is under way.
type message struct {
	from, to int
	m        api.Msg
}

// reading is a reader of a client, and what had been written as it began.
type reading struct {
	r     *reader.Reader
	op    int
	began api.Stamp
}

// system is servers, of which some lie, a client that writes, one that lies, and some that read.
type system struct {
	t       *testing.T
	r       *rand.Rand
	g       *group.Group
	liars   int
	n       int
	servers map[int]*server.Server
	bad     []int
	tape    *tape.Tape
	flight  []message
	ops     int
	w       *writer.Writer
	value   reader.Result // that is being written
	last    api.Stamp     // that was written, or read, last
	reads   map[int]*reading
	rubbish *dealt
	// Of each server that does not lie, all that it held; of each stamp, what was written, or read.
	held map[int]map[api.Stamp]bool
	seen map[api.Stamp]reader.Result
	// How many reads ended, with a value, with what one that lies wrote, and gave back shares.
	ended, valued, lied, mended int
}

const (
	writes, lies = 1, 4 // the clients that write: one does not lie, one does
	clients      = 4
)

func newSystem(t *testing.T, r *rand.Rand, g *group.Group, liars int) *system {
	y := &system{t: t, r: r, g: g, liars: liars, n: 3*liars + 1, servers: map[int]*server.Server{}, reads: map[int]*reading{}, held: map[int]map[api.Stamp]bool{}}
	y.tape, _ = tape.New(noise(r.Uint64(), 60000))
	y.seen = map[api.Stamp]reader.Result{{}: {}}
	for _, k := range r.Perm(y.n)[:r.IntN(liars+1)] {
		y.bad = append(y.bad, k+1)
	}
	for number := 1; number <= y.n; number++ {
		if !slices.Contains(y.bad, number) {
			y.servers[number], _ = server.New(g, liars, number, clients)
			y.held[number] = map[api.Stamp]bool{{}: true}
		}
	}
	y.rubbish = deal(t, g, liars, []api.Nat{nat.Of(200), nat.Of(3)}, draws(r, g, 2*liars))
	return y
}

func (y *system) put(from int, outs []api.Out) {
	for _, o := range outs {
		y.flight = append(y.flight, message{from, o.To, o.M})
	}
}

// toServer lets a server take a message, and keeps in mind what it holds.
func (y *system) toServer(from, to int, m api.Msg) {
	s := y.servers[to]
	if s == nil {
		return
	}
	y.put(to, s.Step(from, m))
	held, _, _ := s.Held(key)
	y.held[to][held] = true
}

// toClient lets the writer, or a reader, take a message.
func (y *system) toClient(from, client int, m api.Msg) {
	y.t.Helper()
	if client == writes && y.w != nil {
		outs, done, e := y.w.Step(from, m, y.tape)
		y.put(y.n+client, outs)
		if s, has := y.w.Stamp(); has {
			x := y.value
			x.Stamp = s
			y.seen[s] = x
			if done {
				y.last = later(y.last, s)
			}
		}
		if done {
			y.w = nil
			if e != api.OK {
				y.t.Fatalf("the writer: %d", e)
			}
		}
	}
	if q := y.reads[client]; q != nil {
		outs, done := q.r.Step(from, m)
		y.put(y.n+client, outs)
		if done {
			delete(y.reads, client)
			y.look(q, len(outs))
		}
	}
}

func later(a, b api.Stamp) api.Stamp {
	if a.Seq > b.Seq || a.Seq == b.Seq && a.Client > b.Client {
		return a
	}
	return b
}

// look looks at what was read.
func (y *system) look(q *reading, outs int) {
	y.t.Helper()
	x, is := q.r.Result()
	if !is {
		y.t.Fatal("it is done without a result")
	}
	hold := 0
	for _, held := range y.held {
		if held[x.Stamp] {
			hold++
		}
	}
	if hold < y.liars+1 {
		y.t.Fatalf("%v was read, which %d servers held", x, hold)
	}
	if want, known := y.seen[x.Stamp]; !known && x.Stamp.Client != lies || known && want != x {
		y.t.Fatalf("%v was read, not %v, %v", x, want, known)
	}
	y.seen[x.Stamp] = x
	if later(x.Stamp, q.began) != x.Stamp {
		y.t.Fatalf("%v was read, but %v was written or read ahead", x, q.began)
	}
	y.last = later(y.last, x.Stamp)
	y.ended++
	if x.There {
		y.valued++
	}
	if x.Stamp.Client == lies {
		y.lied++
	}
	if outs > y.n {
		y.mended++
	}
}

// begin lets the writer begin, and readers.
func (y *system) begin() {
	y.ops++
	if y.w == nil && y.ops < 40 && y.r.IntN(2) == 0 {
		y.value = reader.Result{Value: noise(y.r.Uint64(), y.r.IntN(12)), There: y.r.IntN(4) > 0}
		y.w, _ = writer.New(y.g, y.liars, writes, y.ops, key, y.value.Value, y.value.There)
		if !y.value.There {
			y.value.Value = ""
		}
		y.put(y.n+writes, y.w.Start())
	}
	for client := writes + 1; client < lies; client++ {
		if y.reads[client] == nil && y.r.IntN(2) == 0 {
			y.reads[client] = &reading{newReader(y.t, y.g, y.liars, y.ops, key), y.ops, y.last}
			y.put(y.n+client, y.reads[client].r.Start())
		}
	}
}

// lie lets a server that lies tell a client something, or another server, or the client that lies tell servers.
func (y *system) lie() {
	s := of(1+y.r.IntN(max(1, y.last.Seq+2)), 1+y.r.IntN(clients))
	d := y.rubbish
	if y.r.IntN(3) == 0 {
		// A server gets its shares by this, if it is not lost: so all can hold what enough echo.
		s.Client = lies
		for to := 1; to <= y.n; to++ {
			if y.r.IntN(4) > 0 {
				y.put(y.n+lies, []api.Out{{To: to, M: api.Msg{Kind: api.MsgPropose, Op: y.ops, Key: key, Stamp: s, Matrix: d.m, Ys: d.at(to)}}})
			}
		}
		return
	}
	if len(y.bad) == 0 {
		return
	}
	from := y.bad[y.r.IntN(len(y.bad))]
	if y.r.IntN(3) == 0 {
		kind := api.MsgEcho + y.r.IntN(2)
		y.toServer(from, 1+y.r.IntN(y.n), api.Msg{Kind: kind, Key: key, Stamp: s, Digest: d.digest})
		return
	}
	for client := 1; client <= clients; client++ {
		q := y.reads[client]
		if q == nil {
			continue
		}
		m := []api.Msg{zero(), bare(s, d), full(s, d, from), wrong(s, d, from)}[y.r.IntN(4)]
		// It tells what others hold, with shares that are wrong.
		for _, x := range y.flight {
			if x.m.Kind == api.MsgState && x.m.Key == key && y.r.IntN(3) == 0 {
				m = copied(x.m)
				if y.r.IntN(4) == 0 {
					m.Matrix = d.m
				}
				if len(m.Matrix) > 0 {
					m.Ys = make([]api.Nat, len(m.Matrix))
				}
			}
		}
		m.Op = q.op
		y.toClient(from, client, m)
		return
	}
}

// tick lets all that do not lie tell again.
func (y *system) tick() {
	for number := 1; number <= y.n; number++ {
		y.put(number, y.servers[number].Tick())
	}
	if y.w != nil {
		y.put(y.n+writes, y.w.Tick())
	}
	for client := 1; client <= clients; client++ {
		if q := y.reads[client]; q != nil {
			y.put(y.n+client, q.r.Tick())
		}
	}
}

// deliver takes any one of what is under way.
func (y *system) deliver() {
	k := y.r.IntN(len(y.flight))
	x := y.flight[k]
	y.flight[k] = y.flight[len(y.flight)-1]
	y.flight = y.flight[:len(y.flight)-1]
	if x.to > y.n {
		y.toClient(x.from, x.to-y.n, x.m)
	} else {
		y.toServer(x.from, x.to, x.m)
	}
}

// Rd3, P1 to P3: with servers and a client that lie, whatever is lost and put out of turn: what is read t + 1 servers held that do not lie, all who read a stamp read the same, none reads what is older than what was written or read ahead, and when all tick, each read ends.
func TestWithServers(t *testing.T) {
	g := least(t)
	ended, valued, lied, mended := 0, 0, 0, 0
	for round := range 120 {
		r := newDrawer(uint64(7000 + round))
		y := newSystem(t, r, g, 1+round%3/2)
		for steps := 0; y.ops < 50 || y.w != nil || len(y.reads) > 0; steps++ {
			switch {
			case steps > 40000:
				t.Fatalf("round %d: %d reads do not end", round, len(y.reads))
			case y.ops < 50 && r.IntN(40) == 0:
				y.begin()
			case r.IntN(12) == 0 && steps < 20000:
				y.lie()
			case len(y.flight) > 0 && r.IntN(15) == 0:
				y.flight = y.flight[1:]
			case len(y.flight) > 0:
				y.deliver()
			default:
				y.tick()
			}
		}
		ended, valued, lied, mended = ended+y.ended, valued+y.valued, lied+y.lied, mended+y.mended
	}
	if ended < 1000 || valued < 200 || lied < 200 || mended < 200 {
		t.Errorf("but %d ended, %d with a value, %d with what one that lies wrote, and %d gave back shares", ended, valued, lied, mended)
	}
}

// Rd2, Rd3: a server that holds a value without its shares gets them back by a read, and so others read the same of them.
func TestServersMended(t *testing.T) {
	g, s := least(t), of(1, 2)
	for liars := 1; liars <= 2; liars++ {
		n := 3*liars + 1
		d := dealValue(t, g, liars, "hello", true, 5)
		var servers []*server.Server
		for number := 1; number <= n; number++ {
			x, _ := server.New(g, liars, number, 2)
			servers = append(servers, x)
		}
		var flight []message
		put := func(from int, outs []api.Out) {
			for _, o := range outs {
				flight = append(flight, message{from, o.To, o.M})
			}
		}
		var r *reader.Reader
		run := func() {
			for len(flight) > 0 {
				x := flight[0]
				flight = flight[1:]
				if x.to <= n {
					put(x.to, servers[x.to-1].Step(x.from, x.m))
				} else if r != nil && x.to == n+1 {
					outs, _ := r.Step(x.from, x.m)
					put(n+1, outs)
				}
			}
		}
		// Only as many as are needed get their shares.
		for to := 1; to <= 2*liars+1; to++ {
			put(n+2, []api.Out{{To: to, M: api.Msg{Kind: api.MsgPropose, Op: 1, Key: key, Stamp: s, Matrix: d.m, Ys: d.at(to)}}})
		}
		run()
		r = newReader(t, g, liars, op, key)
		put(n+1, r.Start())
		run()
		if x, is := r.Result(); x != hello(s) || !is {
			t.Errorf("%v, %v was read", x, is)
		}
		// Those that come behind the first ones tell the reader too late; another read gets them.
		r = newReader(t, g, liars, op+1, key)
		for from := n; from >= 1; from-- {
			put(n+1, []api.Out{{To: from, M: api.Msg{Kind: api.MsgListen, Op: op + 1, Key: key}}})
		}
		run()
		if x, is := r.Result(); x != hello(s) || !is {
			t.Errorf("%v, %v was read", x, is)
		}
		for k, x := range servers {
			if held, digest, has := x.Held(key); held != s || digest != d.digest || !has {
				t.Errorf("the server %d holds %v, %v", k+1, held, has)
			}
		}
	}
}

// Rd1, Rd2: by whatever bytes: a reader, then messages to it.
func FuzzReader(f *testing.F) {
	f.Add([]byte("\x00\x01\x03\x00\x08\x02\x03\x00\x08\x03\x03\x00\x08"))
	f.Add([]byte("\x00\x01\x02\x00\x08\x02\x04\x00\x08\x03\x05\x00\x08\x04\x03\x00\x08\x01\x03\x00\x08"))
	f.Add([]byte("\x01\x01\x00\x00\x00\x02\x00\x00\x00\x03\x00\x00\x00\x04\x00\x00\x00\x05\x00\x00\x00"))
	first, second := newBench(f, 1), newBench(f, 2)
	f.Fuzz(func(t *testing.T, data []byte) {
		next := func(below int) int {
			if len(data) == 0 {
				return 0
			}
			b := int(data[0])
			data = data[1:]
			return b % below
		}
		b := []*bench{first, second}[next(2)]
		b = newBenchOf(t, b.o.g, b.o.t, b.d...)
		for len(data) > 0 {
			from, kind, d, seq := next(b.o.n+2), next(13), b.d[next(len(b.d))], next(16)
			s := of(1+seq/4, 1+seq%4)
			m := zero()
			switch {
			case kind == 1 || kind == 2:
				m = bare(s, d)
			case kind == 3 || kind > 8:
				m = full(s, d, from)
			case kind == 4:
				m = wrong(s, d, from)
			case kind == 5:
				m = other(s, d, b.d[next(len(b.d))], from)
			case kind == 6:
				m.Kind = next(10)
			case kind == 7:
				m.Op, m.Key = next(20), []string{"", key, "q"}[next(3)]
			case kind == 8:
				m = mixed(s, d, b.d[next(len(b.d))], from)
			}
			b.both(from, m)
		}
	})
}
