package writer_test

import (
	"fmt"
	"math"
	"math/big"
	"math/rand/v2"
	"reflect"
	"slices"
	"strings"
	"testing"
	"unsafe"

	"sacristy/api"
	"sacristy/chunk"
	"sacristy/group"
	"sacristy/matrix"
	"sacristy/nat"
	"sacristy/server"
	"sacristy/tape"
	"sacristy/wire"
	"sacristy/writer"
)

const (
	maxOps = 1 << 20
	maxSeq = 1 << 40
)

// someInts are about the ends of liars, servers, clients and operations, and numbers of which the lowest bits are one.
var someInts = []int{math.MinInt, math.MinInt + 1, -1 << 32, -256, -7, -4, -3, -2, -1, 0, 1, 2, 3, 4, 5, 6, 7, 8, 9, 10, 11, 255, 256, 257, 259, maxOps - 1, maxOps, maxOps + 1, 1 << 32, 1<<32 + 1, 1<<32 + 5, 1<<62 + 2, math.MaxInt - 1, math.MaxInt}

func given(t testing.TB, p api.Params) *group.Group {
	t.Helper()
	g, e := group.New(p)
	if e != api.OK {
		t.Fatal(e)
	}
	return g
}

func least(t testing.TB) *group.Group { return given(t, group.Least()) }

// tiny is a group whose Q has 10 bits: each number holds one byte.
func tiny(t testing.TB) *group.Group {
	return given(t, api.Params{Chain: []api.Link{{N: nat.Of(521)}, {N: nat.Of(16673), A: 2}}, G: nat.Of(2496)})
}

// greatest is a group whose Q has 255 bits: each number holds 31 bytes.
func greatest(t testing.TB) *group.Group {
	digits := []string{"65521", "1074282317", "576460780807958477", "649037107316878326410637878470751",
		"803469022129495137770981108568449884878255012103186407123779",
		"57896044618595922064977028148842967554791797017574897235716261396257767476009",
		"115792089237191844129954056297685935109583594035149794471432522792515534952019"}
	p := api.Params{G: nat.Of(4)}
	for k := range digits {
		n, _ := new(big.Int).SetString(digits[k], 10)
		p.Chain = append(p.Chain, api.Link{N: fromBig(n), A: 2 * min(k, 1)})
	}
	return given(t, p)
}

func newWriter(t testing.TB, g *group.Group, liars, client, op int, key, value string, there bool) *writer.Writer {
	t.Helper()
	w, e := writer.New(g, liars, client, op, key, value, there)
	if w == nil || e != api.OK {
		t.Fatalf("New(%d, %d, %d, %q, %q, %v): %v, %d", liars, client, op, key, value, there, w, e)
	}
	return w
}

func newTape(t testing.TB, text string) *tape.Tape {
	t.Helper()
	x, e := tape.New(text)
	if e != api.OK {
		t.Fatal(e)
	}
	return x
}

// rest are the bytes of a tape that were not taken.
func rest(x *tape.Tape) string {
	copied := *x
	text, _ := copied.Bytes(copied.Left())
	return text
}

// newDrawer gives numbers of a seed that stays the same.
func newDrawer(seed uint64) *rand.Rand { return rand.New(rand.NewPCG(24, seed)) }

// noise are so many bytes of a seed.
func noise(seed uint64, count int) string {
	r := newDrawer(seed)
	bytes := make([]byte, count)
	for k := range bytes {
		bytes[k] = byte(r.Uint32())
	}
	return string(bytes)
}

func of(seq, client int) api.Stamp { return api.Stamp{Seq: seq, Client: client} }

// state is what a server tells that holds a number; 0: it holds nothing.
func state(op int, key string, seq int) api.Msg {
	m := api.Msg{Kind: api.MsgState, Op: op, Key: key}
	if seq > 0 {
		m.Stamp, m.Digest = of(seq, 1+seq%4), strings.Repeat("d", 32)
	}
	return m
}

func ack(op int, key string, s api.Stamp) api.Msg {
	return api.Msg{Kind: api.MsgAck, Op: op, Key: key, Stamp: s}
}

// bench is a writer, its model, and a tape.
type bench struct {
	t    testing.TB
	w    *writer.Writer
	o    *model
	x    *tape.Tape
	text string // of the tape
}

const op, key = 9, "k"

// newBench is a writer of a value of 4 bytes, which are two numbers, with a tape that does for it.
func newBench(t testing.TB, liars, client int) *bench {
	t.Helper()
	return newBenchOf(t, least(t), liars, client, "four", true, noise(1, 100))
}

func newBenchOf(t testing.TB, g *group.Group, liars, client int, value string, there bool, text string) *bench {
	t.Helper()
	w, o := newWriter(t, g, liars, client, op, key, value, there), newModel(g, liars, client, op, key, value, there)
	return &bench{t, w, o, newTape(t, text), text}
}

// shown is what goes out, as text: the end, the kind, the operation, the key, the stamp, and whether it has the server's shares.
func (b *bench) shown(x api.Out) string {
	kinds := []string{"?", "listen", "leave", "state", "propose", "echo", "ready", "ack", "mend"}
	m := x.M
	text := fmt.Sprintf("%d %s %d %s %d.%d", x.To, kinds[m.Kind], m.Op, m.Key, m.Stamp.Seq, m.Stamp.Client)
	switch {
	case len(m.Matrix) == 0 && len(m.Ys) == 0:
	case x.To > len(b.o.parts):
		text += " EARLY"
	case sameMatrix(m.Matrix, b.o.m) && slices.Equal(m.Ys, b.o.parts[x.To-1].Ys):
		text += " shares"
	default:
		text += " WRONG"
	}
	if wire.Check(m) != api.OK {
		text += " MAY NOT BE"
	}
	return text
}

// check holds what goes out against texts, of which one that begins with * goes to all servers.
func (b *bench) check(outs []api.Out, want ...string) {
	b.t.Helper()
	var all, got []string
	for _, text := range want {
		tail, toServers := strings.CutPrefix(text, "*")
		if !toServers {
			all = append(all, text)
			continue
		}
		for to := 1; to <= b.o.n; to++ {
			all = append(all, fmt.Sprint(to)+tail)
		}
	}
	for _, x := range outs {
		got = append(got, b.shown(x))
	}
	if !slices.Equal(got, all) {
		b.t.Errorf("goes out:\n%q, not\n%q", got, all)
	}
}

// both lets the writer and the model take a message, and holds all against each other.
func (b *bench) both(from int, m api.Msg) ([]api.Out, bool, api.Errno) {
	b.t.Helper()
	outs, done, e := b.w.Step(from, m, b.x)
	wantOuts, wantDone, wantE := b.o.step(from, m, &b.text)
	if !sameOuts(outs, wantOuts) || done != wantDone || e != wantE {
		b.t.Fatalf("%v of %d: %v, %v, %d, not %v, %v, %d", m, from, outs, done, e, wantOuts, wantDone, wantE)
	}
	if left := rest(b.x); left != b.text {
		b.t.Fatalf("%v of %d: of the tape is left %x, not %x", m, from, left, b.text)
	}
	b.state()
	return outs, done, e
}

// state holds all that is to be asked against the model.
func (b *bench) state() {
	b.t.Helper()
	if got := b.w.Start(); !sameOuts(got, b.o.start()) {
		b.t.Fatalf("Start(): %v", got)
	}
	if got := b.w.Tick(); !sameOuts(got, b.o.tick()) {
		b.t.Fatalf("Tick(): %v, not %v", got, b.o.tick())
	}
	if s, has := b.w.Stamp(); s != b.o.stamp || has != (b.o.stamp.Seq > 0) {
		b.t.Fatalf("Stamp(): %d, %v, not %d", s, has, b.o.stamp)
	}
}

// step takes a message by which it is not done.
func (b *bench) step(from int, m api.Msg, want ...string) {
	b.t.Helper()
	outs, done, e := b.both(from, m)
	if done || e != api.OK {
		b.t.Errorf("%v of %d: %v, %d", m, from, done, e)
	}
	b.check(outs, want...)
}

// last takes a message by which it is done.
func (b *bench) last(from int, m api.Msg, why api.Errno, want ...string) {
	b.t.Helper()
	outs, done, e := b.both(from, m)
	if !done || e != why {
		b.t.Errorf("%v of %d: %v, %d, not done with %d", m, from, done, e, why)
	}
	b.check(outs, want...)
}

func (b *bench) tick(want ...string) {
	b.t.Helper()
	b.check(b.w.Tick(), want...)
}

// still looks whether a message does nothing, and changes nothing.
func (b *bench) still(from int, m api.Msg) {
	b.t.Helper()
	was, left := *b.w, rest(b.x)
	outs, done, e := b.w.Step(from, m, b.x)
	if len(outs) != 0 || done || e != api.OK {
		b.t.Errorf("%v of %d: %v, %v, %d", m, from, outs, done, e)
	}
	if !reflect.DeepEqual(was, *b.w) || rest(b.x) != left {
		b.t.Errorf("%v of %d: something changed", m, from)
	}
}

// Wt1: only of these liars, clients and operations there is a writer.
func TestNew(t *testing.T) {
	g := least(t)
	for _, liars := range someInts {
		for _, client := range someInts {
			for _, op := range someInts {
				may := 1 <= liars && liars <= 2 && 1 <= client && client <= 4 && 1 <= op && op <= maxOps
				for _, value := range []string{"", "v", strings.Repeat("v", 24), strings.Repeat("v", 25)} {
					for _, there := range []bool{false, true} {
						want := api.OK
						switch {
						case !may:
							want = api.ErrArg
						case there && len(value) > 24:
							want = api.ErrTooLarge
						}
						w, e := writer.New(g, liars, client, op, "key", value, there)
						if e != want || (w != nil) != (want == api.OK) {
							t.Fatalf("New(%d, %d, %d, %q, %v): %v, %d, not %d", liars, client, op, value, there, w, e, want)
						}
						if w == nil {
							continue
						}
						outs := w.Start()
						if !sameOuts(outs, newModel(g, liars, client, op, "key", "", false).start()) || !sameOuts(w.Tick(), outs) {
							t.Fatalf("New(%d, %d, %d): goes out %v", liars, client, op, outs)
						}
						if s, has := w.Stamp(); s != of(0, 0) || has {
							t.Fatalf("has a stamp: %d, %v", s, has)
						}
					}
				}
			}
		}
	}
}

// Wt1: without a group there is no writer, and that comes ahead of a value that is too long.
func TestNewWithoutGroup(t *testing.T) {
	refused, _ := group.New(api.Params{})
	for _, g := range []*group.Group{nil, {}, refused} {
		for _, value := range []string{"", "v", strings.Repeat("v", 25)} {
			for _, there := range []bool{false, true} {
				if w, e := writer.New(g, 1, 1, 1, "k", value, there); w != nil || e != api.ErrArg {
					t.Errorf("%q: %v, %d", value, w, e)
				}
			}
		}
	}
}

// Wt1: a key has 1 to 8 bytes, of whatever kind; a value up to 24, and what is not there counts for nothing.
func TestNewTexts(t *testing.T) {
	g := least(t)
	for length := range 300 {
		for _, char := range []string{"\x00", "k", "\xff"} {
			text := strings.Repeat(char, length)
			want := api.ErrArg
			if 1 <= length && length <= 8 {
				want = api.OK
			}
			for _, value := range []string{"", strings.Repeat("v", 25)} {
				w, e := writer.New(g, 1, 1, 1, text, value, false)
				if e != want || (w != nil) != (want == api.OK) {
					t.Errorf("key %q: %v, %d", text, w, e)
				}
				if w != nil && w.Start()[0].M.Key != text {
					t.Errorf("key %q: %v", text, w.Start())
				}
			}
			// Of a key that may not be it is not asked whether the value is too long.
			if want == api.OK {
				want = api.ErrTooLarge
			}
			if w, e := writer.New(g, 1, 1, 1, text, strings.Repeat("v", 25), true); w != nil || e != want {
				t.Errorf("key %q, and a value that is too long: %v, %d", text, w, e)
			}
			want = api.OK
			if length > 24 {
				want = api.ErrTooLarge
			}
			if w, e := writer.New(g, 1, 1, 1, "k", text, true); e != want || (w != nil) != (want == api.OK) {
				t.Errorf("value of %d bytes: %v, %d", length, w, e)
			}
			if w, e := writer.New(g, 1, 1, 1, "k", text, false); w == nil || e != api.OK {
				t.Errorf("value of %d bytes that is not there: %v, %d", length, w, e)
			}
		}
	}
}

// Wt2: the example: three states, four proposals, three answers: done.
func TestExample(t *testing.T) {
	b := newBench(t, 1, 2)
	b.check(b.w.Start(), "* listen 9 k 0.0")
	b.step(1, state(op, key, 0))
	b.step(4, state(op, key, 0))
	b.step(2, state(op, key, 0), "* propose 9 k 1.2 shares")
	s, has := b.w.Stamp()
	if s != of(1, 2) || !has {
		t.Errorf("Stamp(): %d, %v", s, has)
	}
	b.step(1, ack(op, key, s))
	b.step(3, ack(op, key, s))
	b.last(2, ack(op, key, s), api.OK, "* leave 9 k 0.0")
}

// Wt2, Wt3: with one liar, what is told again, and what is asked in between.
func TestOneLiar(t *testing.T) {
	b := newBench(t, 1, 3)
	b.tick("* listen 9 k 0.0")
	b.step(2, state(op, key, 7))
	b.step(2, state(op, key, 90))
	b.step(2, state(op, key, 8))
	b.tick("* listen 9 k 0.0")
	b.step(1, state(op, key, 5))
	b.step(1, state(op, key, 4))
	b.step(4, ack(op, key, of(6, 3)))
	b.step(4, state(op, key, 3))
	// 90 is told by one alone, 5 by two, but three are needed that do not pass it.
	b.step(4, state(op, key, 4))
	b.step(3, state(op, key, 2), "* propose 9 k 6.3 shares")
	b.tick("* propose 9 k 6.3 shares")
	b.step(1, state(op, key, 100))
	b.step(3, ack(op, key, of(6, 3)))
	b.tick("1 propose 9 k 6.3 shares", "2 propose 9 k 6.3 shares", "4 propose 9 k 6.3 shares")
	b.step(3, ack(op, key, of(6, 3)))
	b.step(1, ack(op, key, of(6, 3)))
	b.step(1, ack(op, key, of(6, 3)))
	b.tick("2 propose 9 k 6.3 shares", "4 propose 9 k 6.3 shares")
	b.check(b.w.Start(), "* listen 9 k 0.0")
	b.last(4, ack(op, key, of(6, 3)), api.OK, "* leave 9 k 0.0")
	b.tick()
	b.check(b.w.Start(), "* listen 9 k 0.0")
	for from := range 6 {
		b.still(from, ack(op, key, of(6, 3)))
		b.still(from, state(op, key, 1))
	}
	if s, has := b.w.Stamp(); s != of(6, 3) || !has {
		t.Errorf("Stamp(): %d, %v", s, has)
	}
}

// Wt2, Wt3: with two liars.
func TestTwoLiars(t *testing.T) {
	b := newBench(t, 2, 1)
	b.tick("* listen 9 k 0.0")
	for from, seq := range []int{1000, 900, 3, 2} {
		b.step(7-from, state(op, key, seq))
	}
	// 3 is reached by three, and passed by two of five: five that do not pass it come only with the last one.
	b.step(3, state(op, key, 1))
	b.step(2, state(op, key, 1))
	b.step(1, state(op, key, 0), "* propose 9 k 4.1 shares")
	s := of(4, 1)
	for _, from := range []int{7, 7, 2, 4, 2, 5} {
		b.step(from, ack(op, key, s))
	}
	b.tick("1 propose 9 k 4.1 shares", "3 propose 9 k 4.1 shares", "6 propose 9 k 4.1 shares")
	b.last(1, ack(op, key, s), api.OK, "* leave 9 k 0.0")
	b.tick()
}

// tell lets servers tell their numbers in an order; who has one below 0 tells nothing.
func (b *bench) tell(seqs []int, order []int) {
	b.t.Helper()
	for _, k := range order {
		if seqs[k] >= 0 {
			b.both(k+1, state(op, key, seqs[k]))
		}
	}
}

// orders are all orders of so many.
func orders(count int) [][]int {
	if count == 0 {
		return [][]int{{}}
	}
	var all [][]int
	for _, short := range orders(count - 1) {
		for at := range count {
			all = append(all, slices.Insert(slices.Clone(short), at, count-1))
		}
	}
	return all
}

// Wt2: whatever four servers tell of a few numbers, in each order.
func TestAllStates(t *testing.T) {
	g := least(t)
	gave := 0
	for code := range 5 * 5 * 5 * 5 {
		seqs := []int{code%5 - 1, code/5%5 - 1, code/25%5 - 1, code/125 - 1}
		for _, order := range orders(4) {
			b := newBenchOf(t, g, 1, 1, "", false, "\x00\x00\x00\x01")
			b.tell(seqs, order)
			if _, has := b.w.Stamp(); has {
				gave++
			}
		}
	}
	if gave < 5000 {
		t.Errorf("it gave but %d times", gave)
	}
}

// Wt2: a server is counted by the greatest number that it told, whatever it tells ahead or behind.
func TestGreatestOfEach(t *testing.T) {
	g := least(t)
	r := newDrawer(3)
	gave := 0
	for range 3000 {
		liars := 1 + r.IntN(2)
		b := newBenchOf(t, g, liars, 1+r.IntN(4), "", false, noise(4, 40))
		for range 12 {
			b.both(1+r.IntN(3*liars+1), state(op, key, r.IntN(6)))
		}
		if _, has := b.w.Stamp(); has {
			gave++
		}
	}
	if gave < 1000 || gave > 2990 {
		t.Errorf("it gave %d times", gave)
	}
}

// Wt2: numbers at the limit: behind the last one there is none, and then nothing is drawn.
func TestLimitOfNumbers(t *testing.T) {
	for liars := 1; liars <= 2; liars++ {
		for _, seq := range []int{1, 1 << 31, 1<<31 + 1, 1 << 32, maxSeq - 2, maxSeq - 1, maxSeq} {
			for client := 1; client <= 4; client++ {
				b := newBench(t, liars, client)
				for from := 1; from <= 2*liars; from++ {
					b.step(from, state(op, key, seq))
				}
				if seq < maxSeq {
					b.step(3*liars+1, state(op, key, seq), fmt.Sprintf("* propose 9 k %d.%d shares", seq+1, client))
					continue
				}
				b.last(3*liars+1, state(op, key, seq), api.ErrFull, "* leave 9 k 0.0")
				b.isOver(100)
			}
		}
	}
}

// isOver looks whether it is done without that it gave, and whether so many bytes are left of the tape.
func (b *bench) isOver(left int) {
	b.t.Helper()
	if s, has := b.w.Stamp(); s != of(0, 0) || has {
		b.t.Errorf("has a stamp: %d, %v", s, has)
	}
	if b.x.Left() != left {
		b.t.Errorf("%d bytes are left, not %d", b.x.Left(), left)
	}
	b.tick()
	b.check(b.w.Start(), "* listen 9 k 0.0")
	for from := range b.o.n + 2 {
		for _, s := range []api.Stamp{of(1, 1), of(1, b.o.client), of(6, b.o.client)} {
			b.still(from, ack(op, key, s))
		}
		b.still(from, state(op, key, 5))
		b.still(from, state(op, key, 0))
	}
	b.state()
}

// Wt2: without a tape it ends with ErrArg; a number behind the last one comes ahead of that.
func TestNoTape(t *testing.T) {
	for _, x := range []*tape.Tape{nil, {}} {
		b := newBench(t, 1, 2)
		for from := 1; from <= 2; from++ {
			if outs, done, e := b.w.Step(from, state(op, key, 5), x); len(outs) != 0 || done || e != api.OK {
				t.Errorf("the tape is not needed yet: %v, %v, %d", outs, done, e)
			}
		}
		outs, done, e := b.w.Step(4, state(op, key, 5), x)
		if !done || e != api.ErrArg {
			t.Errorf("%v, %d", done, e)
		}
		b.check(outs, "* leave 9 k 0.0")
		b.o.phase = "done"
		b.isOver(100)
		b = newBench(t, 1, 2)
		for from := 1; from <= 2; from++ {
			b.w.Step(from, state(op, key, maxSeq), x)
		}
		if _, done, e := b.w.Step(4, state(op, key, maxSeq), x); !done || e != api.ErrFull {
			t.Errorf("behind the last number: %v, %d", done, e)
		}
		b = newBench(t, 1, 2)
		for from := 1; from <= 3; from++ {
			b.step(from, state(op, key, 5), []string{"* propose 9 k 6.2 shares"}[:from/3]...)
		}
		for from := 1; from <= 3; from++ {
			if _, done, e := b.w.Step(from, ack(op, key, of(6, 2)), x); done != (from == 3) || e != api.OK {
				t.Errorf("the tape is needed no more: %v, %d", done, e)
			}
		}
	}
}

// Wt2: of each length of values, in groups of all sizes: what is drawn, that just so many bytes do, and what comes back of the shares.
func TestValues(t *testing.T) {
	for _, g := range []*group.Group{tiny(t), least(t), given(t, group.Great()), greatest(t)} {
		for liars := 1; liars <= 2; liars++ {
			for length := -1; length <= 24; length++ {
				value := noise(uint64(length+1), max(length, 0))
				checkValue(t, g, liars, value, length >= 0, noise(50+uint64(length), 1000))
			}
		}
	}
}

func checkValue(t *testing.T, g *group.Group, liars int, value string, there bool, text string) {
	t.Helper()
	count := chunk.Count(g, len(value)) * liars
	random, left, ok := drawsOf(g, text, count)
	if !ok {
		t.Fatal("the tape is too short")
	}
	needed := len(text) - len(left)
	b := newBenchOf(t, g, liars, 2, value, there, text[:needed])
	for from := 1; from <= 2*liars; from++ {
		b.step(from, state(op, key, 0))
	}
	b.step(2*liars+1, state(op, key, 0), "* propose 9 k 1.2 shares")
	if b.x.Left() != 0 || b.o.numberOfDraws != count {
		t.Errorf("%d bytes are left behind %d draws, not behind %d", b.x.Left(), b.o.numberOfDraws, count)
	}
	checkShares(t, g, liars, b.w.Tick(), value, there, random)
	// One byte less, and it can not give.
	b = newBenchOf(t, g, liars, 2, value, there, text[:needed-1])
	for from := 1; from <= 2*liars; from++ {
		b.step(from, state(op, key, 0))
	}
	b.last(2*liars+1, state(op, key, 0), api.ErrNoMore, "* leave 9 k 0.0")
	b.isOver(needed - 1)
}

// checkShares recovers what goes out to any t + 1 servers.
func checkShares(t *testing.T, g *group.Group, liars int, outs []api.Out, value string, there bool, random []api.Nat) {
	t.Helper()
	var parts []api.Part
	for _, x := range outs {
		part := api.Part{I: x.To, Ys: x.M.Ys}
		if !matrix.May(g, liars, x.M.Matrix) || !matrix.Holds(g, x.M.Matrix, part) || !sameMatrix(x.M.Matrix, outs[0].M.Matrix) {
			t.Errorf("the shares of %d do not hold", x.To)
		}
		if _, e := wire.Put(x.M); e != api.OK {
			t.Errorf("what goes out to %d has no bytes: %d", x.To, e)
		}
		parts = append(parts, part)
	}
	for at := range len(parts) - liars {
		polys, e := matrix.Recover(g, liars, outs[0].M.Matrix, parts[at:at+liars+1])
		if e != api.OK {
			t.Fatalf("nothing comes back: %d", e)
		}
		var numbers, others []api.Nat
		for _, poly := range polys {
			numbers, others = append(numbers, poly[0]), append(others, poly[1:]...)
		}
		got, has, e := chunk.Take(g, numbers)
		if got != value || has != there || e != api.OK {
			t.Errorf("%q, %v, %d comes back, not %q, %v", got, has, e, value, there)
		}
		if !slices.Equal(others, random) {
			t.Errorf("by %x, not %x", others, random)
		}
	}
}

// Wt1, Wt2: what stands for a value that is not there counts for nothing.
func TestNone(t *testing.T) {
	g := least(t)
	var first []api.Out
	for _, value := range []string{"", "v", strings.Repeat("v", 25), strings.Repeat("v", 3000)} {
		w, x := newWriter(t, g, 1, 2, op, key, value, false), newTape(t, noise(6, 100))
		for from := 1; from <= 3; from++ {
			w.Step(from, state(op, key, 0), x)
		}
		if x.Left() != 96 {
			t.Errorf("%d bytes are left", x.Left())
		}
		if first == nil {
			first = w.Tick()
		}
		if outs := w.Tick(); len(outs) != 4 || !sameOuts(outs, first) {
			t.Errorf("%q: %v, not %v", value, outs, first)
		}
	}
}

// Wt2: whichever servers answer, in whatever order, also again and again: it is done with the last of enough, and all others are told again.
func TestAnswers(t *testing.T) {
	g := least(t)
	for liars := 1; liars <= 2; liars++ {
		n := 3*liars + 1
		all := orders(n)
		if liars == 2 {
			newDrawer(8).Shuffle(len(all), func(i, j int) { all[i], all[j] = all[j], all[i] })
			all = all[:300]
		}
		for number, order := range all {
			b := newBenchOf(t, g, liars, 4, "v", true, noise(9, 100))
			for from := 1; from <= 2*liars+1; from++ {
				b.both(from, state(op, key, 2))
			}
			s := of(3, 4)
			for k, server := range order[:2*liars+1] {
				for again := range number%3 + 1 {
					outs, done, e := b.both(server+1, ack(op, key, s))
					if is := k == 2*liars && again == 0; done != is || len(outs) != 0 != is || e != api.OK {
						t.Fatalf("%v: the answer %d: %v, %v, %d", order, k, outs, done, e)
					}
				}
				var want []string
				for to := 1; to <= n && k < 2*liars; to++ {
					if !slices.Contains(order[:k+1], to-1) {
						want = append(want, fmt.Sprintf("%d propose 9 k 3.4 shares", to))
					}
				}
				b.tick(want...)
			}
		}
	}
}

// others looks whether messages do nothing that are all but such that a writer takes, which asks, or gives with the stamp 6.2.
func (b *bench) others() {
	b.t.Helper()
	s := of(6, 2)
	digest := strings.Repeat("d", 32)
	m := b.o.m
	if m == nil {
		m, _, _ = matrix.Deal(b.o.g, b.o.t, []api.Nat{{1}, {2}}, make([]api.Nat, 2*b.o.t))
	}
	ys := make([]api.Nat, len(m))
	right := []api.Msg{state(op, key, 5), state(op, key, 0), ack(op, key, s)}
	for _, x := range right {
		for _, from := range someInts {
			if from < 1 || from > b.o.n {
				b.still(from, x)
			}
		}
		for _, kind := range append(someInts, 3, 7) {
			y := x
			// All that may be of this stamp, of each kind; those that it takes are left out.
			for _, y.Stamp = range []api.Stamp{{}, s, of(5, 1), of(0, 2), of(6, 0)} {
				for _, y.Digest = range []string{"", digest, digest[1:], digest + "d"} {
					for _, shares := range []bool{false, true} {
						y.Kind, y.Matrix, y.Ys = kind, nil, nil
						if shares {
							y.Matrix, y.Ys = m, ys
						}
						isState := kind == api.MsgState && wire.Check(y) == api.OK && b.o.phase == "asks"
						isAck := kind == api.MsgAck && wire.Check(y) == api.OK && b.o.phase == "gives" && y.Stamp == s
						if !isState && !isAck {
							b.still(3, y)
						}
					}
				}
			}
		}
		for _, y := range []int{op - 1, op + 1, -op, 0, op + 256, op + 1<<32, math.MinInt} {
			z := x
			z.Op = y
			b.still(3, z)
		}
		for _, y := range []string{"", "K", "kk", "k\x00", "\x00k", "123456789", strings.Repeat("k", 300)} {
			z := x
			z.Key = y
			b.still(3, z)
		}
	}
	for _, y := range []api.Stamp{of(5, 2), of(7, 2), of(6, 1), of(6, 3), of(6, 4), of(6, 5), of(6+1<<32, 2), of(-6, 2), of(maxSeq+1, 2)} {
		b.still(3, ack(op, key, y))
	}
	for _, y := range []api.Msg{
		{Kind: api.MsgState, Op: op, Key: key, Stamp: of(maxSeq+1, 1), Digest: digest},
		{Kind: api.MsgState, Op: op, Key: key, Stamp: of(-1, 1), Digest: digest},
		{Kind: api.MsgState, Op: op, Key: key, Stamp: of(5, 5), Digest: digest},
		{Kind: api.MsgState, Op: op, Key: key, Stamp: of(5, 1), Digest: digest, Matrix: m},
		{Kind: api.MsgState, Op: op, Key: key, Stamp: of(5, 1), Digest: digest, Ys: ys},
		{Kind: api.MsgState, Op: op, Key: key, Stamp: of(5, 1), Digest: digest, Matrix: m, Ys: ys[1:]},
		{Kind: api.MsgState, Op: op, Key: key, Matrix: m, Ys: ys},
		{Kind: api.MsgAck, Op: op, Key: key, Stamp: s, Digest: digest},
		{Kind: api.MsgAck, Op: op, Key: key, Stamp: s, Matrix: m, Ys: ys},
	} {
		b.still(3, y)
	}
}

// Wt2: what it is not to take changes nothing, whether it asks, gives, or is done; what it is to take is taken behind it, as if nothing had been.
func TestNotToTake(t *testing.T) {
	for liars := 1; liars <= 2; liars++ {
		b := newBench(t, liars, 2)
		if liars == 1 {
			b.others()
		}
		// Whoever comes next, it gives.
		for from := 4; from < 4+2*liars; from++ {
			b.step((from-1)%b.o.n+1, state(op, key, 5))
		}
		b.others()
		for from := range b.o.n + 1 {
			b.still(from, ack(op, key, of(6, 2)))
		}
		b.step(3, state(op, key, 5), "* propose 9 k 6.2 shares")
		b.others()
		for from := 4; from < 4+2*liars; from++ {
			b.step((from-1)%b.o.n+1, ack(op, key, of(6, 2)))
		}
		// Whoever comes next, it is done.
		b.others()
		for from := range b.o.n + 1 {
			b.still(from, state(op, key, 5))
			b.still(from, state(op, key, 500))
		}
		b.last(3, ack(op, key, of(6, 2)), api.OK, "* leave 9 k 0.0")
		b.others()
		b.still(3, state(op, key, 5))
		b.still(3, ack(op, key, of(6, 2)))
	}
}

// Wt2: a state is taken with its matrix, too, and with whatever client's stamp; of the matrix nothing is asked but that it is to be put.
func TestStatesWithShares(t *testing.T) {
	g := least(t)
	for client := 1; client <= 4; client++ {
		b := newBenchOf(t, g, 1, 2, "v", true, noise(5, 40))
		m := state(op, key, 4)
		m.Stamp.Client, m.Matrix, m.Ys = client, api.Matrix{{{7}, {}, {9}}}, []api.Nat{{}}
		b.step(4, m)
		b.step(3, m)
		b.step(2, m, "* propose 9 k 5.2 shares")
	}
}

// Wt3: Tick, Start and Stamp change nothing, however often they are called.
func TestAsksChangeNothing(t *testing.T) {
	b := newBench(t, 1, 2)
	ask := func() {
		t.Helper()
		was := *b.w
		first := b.w.Tick()
		for range 5 {
			if !sameOuts(b.w.Tick(), first) {
				t.Error("Tick() tells something else")
			}
			b.w.Start()
			b.w.Stamp()
		}
		if !reflect.DeepEqual(was, *b.w) {
			t.Error("something changed")
		}
	}
	ask()
	for from := 1; from <= 3; from++ {
		b.both(from, state(op, key, 5))
		ask()
	}
	for from := 2; from <= 4; from++ {
		b.both(from, ack(op, key, of(6, 2)))
		ask()
	}
}

// R1: a writer that New did not give tells nothing, and takes nothing of the tape.
func TestNotMade(t *testing.T) {
	for _, w := range []*writer.Writer{nil, {}, new(writer.Writer)} {
		x := newTape(t, noise(2, 100))
		for range 2 {
			if len(w.Start()) != 0 || len(w.Tick()) != 0 {
				t.Error("something goes out")
			}
			if s, has := w.Stamp(); s != of(0, 0) || has {
				t.Error("there is a stamp")
			}
			for _, from := range someInts {
				for _, m := range []api.Msg{{}, state(0, "", 0), state(1, "k", 5), ack(1, "k", of(1, 1)), ack(0, "", of(0, 0))} {
					for _, tp := range []*tape.Tape{nil, {}, x} {
						if outs, done, e := w.Step(from, m, tp); len(outs) != 0 || done || e != api.ErrArg {
							t.Errorf("%v of %d: %v, %v, %d", m, from, outs, done, e)
						}
					}
				}
			}
		}
		if x.Left() != 100 {
			t.Error("something was drawn")
		}
	}
}

// R1: a group that is written over behind New's back ends the writer, but does not stop the program.
func TestGroupWrittenOver(t *testing.T) {
	for _, other := range []*group.Group{{}, tiny(t), given(t, group.Other()), greatest(t)} {
		g := least(t)
		w, x := newWriter(t, g, 1, 2, op, key, "\xff\xff\xff\xff", true), newTape(t, noise(2, 500))
		*g = *other
		for from := 1; from <= 4; from++ {
			w.Step(from, state(op, key, 5), x)
			w.Tick()
		}
		for from := 1; from <= 4; from++ {
			w.Step(from, ack(op, key, of(6, 2)), x)
		}
		if outs := w.Tick(); len(outs) != 0 {
			t.Errorf("it is not done: %v", outs)
		}
	}
}

// ruin writes over all memory of a message, also behind its lists' ends.
func ruin(m api.Msg) {
	for _, row := range m.Matrix[:cap(m.Matrix)] {
		clear(row[:cap(row)])
	}
	clear(m.Matrix[:cap(m.Matrix)])
	clear(m.Ys[:cap(m.Ys)])
}

// R3: what is told is new memory, and no two lists of it share any; what is handed in is neither kept nor changed.
func TestMemory(t *testing.T) {
	for liars := 1; liars <= 2; liars++ {
		b := newBenchOf(t, least(t), liars, 2, "a longer value", true, noise(7, 200))
		check := func(got, want []api.Out) {
			t.Helper()
			for k := range got {
				if !sameOuts(got[k:], want[k:]) {
					t.Fatalf("goes out: %v, not %v", got[k:], want[k:])
				}
				for j := range got[k].M.Matrix {
					row := got[k].M.Matrix[j]
					if !slices.Equal(row, want[k].M.Matrix[j]) {
						t.Fatal("rows share memory")
					}
					clear(row[:cap(row)])
				}
				ruin(got[k].M)
			}
			if len(got) != len(want) {
				t.Fatalf("%d go out, not %d", len(got), len(want))
			}
			clear(got[:cap(got)])
		}
		step := func(from int, m api.Msg) {
			t.Helper()
			in := m
			in.Matrix, in.Ys = api.Matrix{{{7}, {8}}, {{1}}, nil}[:1], []api.Nat{{4}, {5}}[:1]
			if m.Kind != api.MsgState {
				in.Matrix, in.Ys = nil, nil
			}
			got, _, _ := b.w.Step(from, in, b.x)
			want, _, _ := b.o.step(from, in, &b.text)
			if in.Matrix != nil && (!sameMatrix(in.Matrix[:3], api.Matrix{{{7}, {8}}, {{1}}, nil}) || !slices.Equal(in.Ys[:2], []api.Nat{{4}, {5}})) {
				t.Error("what is handed in is changed")
			}
			ruin(in)
			check(got, want)
			check(b.w.Start(), b.o.start())
			check(b.w.Tick(), b.o.tick())
			check(b.w.Tick(), b.o.tick())
		}
		for from := 1; from <= 2*liars+1; from++ {
			step(from, state(op, key, 5))
		}
		for from := 1; from <= 2*liars+1; from++ {
			step(from, ack(op, key, of(6, 2)))
		}
	}
}

// R3: the key, and the value, are not kept as they are handed in: they may be a piece of much more.
func TestTextsCopied(t *testing.T) {
	long := strings.Repeat("k", 100)
	w := newWriter(t, least(t), 1, 2, op, long[:8], long[20:30], true)
	x := newTape(t, noise(1, 100))
	isPiece := func(text string) bool {
		from, at := uintptr(unsafe.Pointer(unsafe.StringData(long))), uintptr(unsafe.Pointer(unsafe.StringData(text)))
		return at >= from && at < from+uintptr(len(long))
	}
	check := func(outs []api.Out) {
		t.Helper()
		if len(outs) == 0 {
			t.Error("nothing goes out")
		}
		for _, o := range outs {
			if isPiece(o.M.Key) || o.M.Key != "kkkkkkkk" {
				t.Errorf("a message has the piece %q", o.M.Key)
			}
		}
	}
	check(w.Start())
	for from := 1; from <= 3; from++ {
		m := state(op, long[:8], 5)
		outs, _, _ := w.Step(from, m, x)
		if from == 3 {
			check(outs)
		}
	}
	check(w.Tick())
	// The value does not go out as it is, so that only the writer itself can tell whether it keeps it.
	for v, k := reflect.ValueOf(*w), 0; k < v.NumField(); k++ {
		if f := v.Field(k); f.Kind() == reflect.String && isPiece(f.String()) {
			t.Errorf("the writer keeps the piece %q", f)
		}
	}
}

// R4: the same calls tell the same, writers go their own ways, and draw of one tape one behind the other.
func TestAlike(t *testing.T) {
	g := least(t)
	a, b := newWriter(t, g, 1, 2, op, key, "value", true), newWriter(t, given(t, group.Least()), 1, 2, op, key, "value", true)
	idle := newWriter(t, g, 1, 2, op, key, "value", true)
	text := noise(3, 16)
	x, y := newTape(t, text+text), newTape(t, text)
	run := func(w *writer.Writer, x *tape.Tape) [][]api.Out {
		var all [][]api.Out
		for from := 1; from <= 3; from++ {
			outs, _, _ := w.Step(from, state(op, key, 5), x)
			all = append(all, outs, w.Tick())
		}
		for from := 2; from <= 4; from++ {
			outs, _, _ := w.Step(from, ack(op, key, of(6, 2)), x)
			all = append(all, outs, w.Tick())
		}
		return all
	}
	first := run(a, x)
	if !slices.EqualFunc(first, run(b, y), sameOuts) {
		t.Error("they are not alike")
	}
	if _, has := idle.Stamp(); has || !sameOuts(idle.Tick(), idle.Start()) {
		t.Error("one shows in another one")
	}
	// What is left of the tape begins again as it began.
	_, took, _ := drawsOf(g, text, 2)
	other := newTape(t, took)
	twin := newWriter(t, g, 1, 2, op, key, "value", true)
	if !slices.EqualFunc(run(idle, x), run(twin, newTape(t, took+text)), sameOuts) || other.Left() == 0 {
		t.Error("it does not draw behind what was drawn")
	}
}

// drawn is a message, and whom it is from: mostly such that may be, about what the writer is at.
func drawn(r *rand.Rand, o *model) (int, api.Msg) {
	from := 1 + r.IntN(o.n)
	if r.IntN(10) == 0 {
		from = r.IntN(o.n+6) - 1
	}
	seq := []int{0, 1, 2, 3, 4, 5, 6, maxSeq - 1, maxSeq}[r.IntN(9)]
	s := o.stamp
	switch r.IntN(8) {
	case 0:
		s.Seq += r.IntN(3) - 1
	case 1:
		s.Client = r.IntN(6)
	}
	m := state(op, key, seq)
	if r.IntN(2) == 0 {
		m = ack(op, key, s)
	}
	switch r.IntN(30) {
	case 0:
		m.Op += r.IntN(3) - 1
	case 1:
		m.Key = []string{"", "q", "kk"}[r.IntN(3)]
	case 2:
		m.Kind = r.IntN(10)
	case 3:
		m.Digest = m.Digest[min(1, len(m.Digest)):]
	case 4:
		m.Matrix, m.Ys = api.Matrix{{{3}}}, make([]api.Nat, r.IntN(3))
	}
	return from, m
}

// Wt1 to Wt3: many drawn messages, against the chapter's words.
func TestDrawn(t *testing.T) {
	groups := []*group.Group{least(t), tiny(t)}
	ends := map[string]int{}
	for round := range 2500 {
		r := newDrawer(uint64(100 + round))
		liars := 1 + r.IntN(2)
		value := noise(uint64(round), r.IntN(8))
		b := newBenchOf(t, groups[r.IntN(2)], liars, 1+r.IntN(4), value, r.IntN(4) > 0, noise(uint64(round), r.IntN(200)))
		why := api.OK
		for range 60 {
			if _, done, e := b.both(drawn(r, b.o)); done {
				why = e
			}
		}
		ends[fmt.Sprint(b.o.phase, " ", why)]++
	}
	for _, end := range []string{"asks 0", "gives 0", "done 0", "done 2", "done 5"} {
		if ends[end] < 20 {
			t.Errorf("but few ended so: %s: %v", end, ends)
		}
	}
}

// message is one that is under way.
type message struct {
	from, to int
	m        api.Msg
}

// system is servers, of which some lie, and a client that writes.
type system struct {
	t       *testing.T
	r       *rand.Rand
	g       *group.Group
	liars   int
	n       int
	clients int
	client  int // that writes
	servers map[int]*server.Server
	bad     []int
	w       *writer.Writer
	op      int
	x       *tape.Tape
	flight  []message
	// What each server that does not lie held as the writer began.
	began    []int
	answered map[int]bool
	last     int // the number that was written last
}

func newSystem(t *testing.T, r *rand.Rand, g *group.Group, liars, clients int) *system {
	y := &system{t: t, r: r, g: g, liars: liars, n: 3*liars + 1, clients: clients, servers: map[int]*server.Server{}, x: newTape(t, noise(r.Uint64(), 60000))}
	for _, k := range r.Perm(y.n)[:r.IntN(liars+1)] {
		y.bad = append(y.bad, k+1)
	}
	for number := 1; number <= y.n; number++ {
		if slices.Contains(y.bad, number) {
			continue
		}
		s, e := server.New(g, liars, number, clients)
		if e != api.OK {
			t.Fatal(e)
		}
		y.servers[number] = s
	}
	return y
}

func (y *system) put(from int, outs []api.Out) {
	for _, o := range outs {
		y.flight = append(y.flight, message{from, o.To, o.M})
	}
}

// held are the numbers that servers that do not lie hold.
func (y *system) held() []int {
	var all []int
	for _, s := range y.servers {
		p, _, _ := s.Held(key)
		all = append(all, p.Seq)
	}
	slices.Sort(all)
	return all
}

func (y *system) begin() {
	y.op++
	y.client = 1 + y.r.IntN(y.clients)
	y.w = newWriter(y.t, y.g, y.liars, y.client, y.op, key, noise(y.r.Uint64(), y.r.IntN(25)), y.r.IntN(4) > 0)
	y.began, y.answered = y.held(), map[int]bool{}
	y.put(y.n+y.client, y.w.Start())
}

// deliver takes any one of what is under way.
func (y *system) deliver() {
	k := y.r.IntN(len(y.flight))
	x := y.flight[k]
	y.flight = slices.Delete(y.flight, k, k+1)
	switch {
	case y.servers[x.to] != nil:
		y.put(x.to, y.servers[x.to].Step(x.from, x.m))
	case x.to == y.n+y.client && y.w != nil:
		y.give(x.from, x.m)
	}
}

// give lets the writer take a message, and looks at Wt4.
func (y *system) give(from int, m api.Msg) {
	y.t.Helper()
	_, had := y.w.Stamp()
	outs, done, e := y.w.Step(from, m, y.x)
	y.put(y.n+y.client, outs)
	s, has := y.w.Stamp()
	held := y.held()
	if has && !had {
		if reached := y.began[len(y.began)-y.liars-1]; s.Seq <= reached {
			y.t.Fatalf("it gives with %d, but %d was reached as it began: %v", s, reached, y.began)
		}
		if s.Seq > held[len(held)-1]+1 {
			y.t.Fatalf("it gives with %d, but nobody holds more than %d", s, held[len(held)-1])
		}
	}
	if has && m.Kind == api.MsgAck && m.Stamp == s && m.Op == y.op && y.servers[from] != nil {
		y.answered[from] = true
	}
	if !done {
		return
	}
	if e != api.OK || len(y.answered) < y.liars+1 {
		y.t.Fatalf("done with %d, as %v answered", e, y.answered)
	}
	for number := range y.answered {
		if p, _, _ := y.servers[number].Held(key); p.Seq < s.Seq {
			y.t.Fatalf("%d holds %d only", number, p)
		}
	}
	if s.Seq <= y.last {
		y.t.Fatalf("%d is written behind %d", s, y.last)
	}
	y.last, y.w = s.Seq, nil
}

// lie lets one that lies tell the client something, or a server.
func (y *system) lie() {
	from := y.bad[y.r.IntN(len(y.bad))]
	s, _ := y.w.Stamp()
	digest := strings.Repeat("d", 32)
	switch y.r.IntN(4) {
	case 0:
		y.give(from, ack(y.op, key, s))
	case 1:
		m := state(y.op, key, []int{0, 1, s.Seq, s.Seq + 1, maxSeq}[y.r.IntN(5)])
		y.give(from, m)
	default:
		to := 1 + y.r.IntN(y.n)
		if y.servers[to] != nil {
			vote := api.Msg{Kind: api.MsgEcho + y.r.IntN(2), Key: key, Stamp: of(1+y.r.IntN(5), 1+y.r.IntN(4)), Digest: digest}
			y.put(to, y.servers[to].Step(from, vote))
		}
	}
}

// Wt4, P3: with servers of which some lie, whatever is lost and put out of turn: the stamp skips none, enough that tell the truth answered, and when all tick, each write ends.
func TestWithServers(t *testing.T) {
	g := least(t)
	wrote := 0
	for round := range 150 {
		r := newDrawer(uint64(7000 + round))
		y := newSystem(t, r, g, 1+round%3/2, 1+r.IntN(4))
		for range 6 {
			y.begin()
			for steps := 0; y.w != nil; steps++ {
				switch {
				case steps > 30000:
					t.Fatalf("round %d: the write does not end", round)
				case len(y.bad) > 0 && r.IntN(5) == 0:
					y.lie()
				case len(y.flight) > 0 && r.IntN(15) == 0:
					y.flight = y.flight[1:]
				case len(y.flight) > 0:
					y.deliver()
				default:
					y.tick()
				}
			}
			wrote++
		}
		if y.last < 6 {
			t.Errorf("round %d: the last number is %d", round, y.last)
		}
	}
	if wrote < 900 {
		t.Errorf("but %d writes", wrote)
	}
}

// tick lets all that do not lie tell again.
func (y *system) tick() {
	for number := 1; number <= y.n; number++ {
		if y.servers[number] != nil {
			y.put(number, y.servers[number].Tick())
		}
	}
	y.put(y.n+y.client, y.w.Tick())
}

// Wt1 to Wt3: by whatever bytes: a writer, then messages to it.
func FuzzWriter(f *testing.F) {
	f.Add([]byte("\x00\x01\x04\x01\x30\x01\x00\x02\x02\x00\x02\x03\x00\x02\x01\x01\x03\x02\x01\x03\x04\x01\x03"))
	f.Add([]byte("\x01\x02\x18\x00\x70\x01\x00\x08\x02\x00\x08\x03\x00\x08\x04\x00\x08\x05\x00\x08"))
	g := least(f)
	f.Fuzz(func(t *testing.T, data []byte) {
		next := func(below int) int {
			if len(data) == 0 {
				return 0
			}
			b := int(data[0])
			data = data[1:]
			return b % below
		}
		liars, client, length := 1+next(2), 1+next(4), next(25)
		b := newBenchOf(t, g, liars, client, noise(uint64(length), length), next(4) > 0, noise(3, next(256)))
		for len(data) > 0 {
			from, kind, seq := next(b.o.n+2), next(16), next(9)
			m := state(op, key, []int{0, 1, 2, 3, 4, 5, 6, maxSeq - 1, maxSeq}[seq])
			switch {
			case kind == 15:
				m.Kind = next(10)
			case kind == 14:
				m.Op, m.Key = next(20), []string{"", key, "q"}[next(3)]
			case kind > 8:
				m = ack(op, key, of(seq, 1+next(5)))
			case kind > 0:
				m = ack(op, key, b.o.stamp)
			}
			b.both(from, m)
		}
	})
}
