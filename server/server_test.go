package server_test

import (
	"fmt"
	"maps"
	"math"
	"math/bits"
	"math/rand/v2"
	"slices"
	"strings"
	"testing"
	"unsafe"

	"sacristy/api"
	"sacristy/group"
	"sacristy/matrix"
	"sacristy/nat"
	"sacristy/server"
	"sacristy/wire"
)

const (
	maxOps = 1 << 20
	maxSeq = 1 << 40
)

// someInts are about the ends of liars, servers, clients and ends, and numbers of which the lowest bits are one.
var someInts = []int{math.MinInt, math.MinInt + 1, -1 << 32, -256, -7, -4, -3, -2, -1, 0, 1, 2, 3, 4, 5, 6, 7, 8, 9, 10, 11, 12, 13, 255, 256, 257, 1 << 32, 1<<32 + 1, 1<<32 + 5, 1<<62 + 2, math.MaxInt - 1, math.MaxInt}

// deal is a value as it was dealt to all servers.
type deal struct {
	name   string
	m      api.Matrix
	parts  []api.Part
	digest string
}

func least(t testing.TB) *group.Group {
	t.Helper()
	g, e := group.New(group.Least())
	if e != api.OK {
		t.Fatal(e)
	}
	return g
}

// deals are three values, of one row, one row and two rows.
func deals(t testing.TB, g *group.Group, liars int) []deal {
	t.Helper()
	var all []deal
	for k, name := range []string{"x", "y", "z"} {
		rows := 1 + k/2
		var numbers, random []api.Nat
		for row := range rows {
			numbers = append(numbers, nat.Of(100*k+row))
			for j := range liars {
				random = append(random, nat.Of(1000*k+10*row+j+7))
			}
		}
		m, parts, e := matrix.Deal(g, liars, numbers, random)
		if e != api.OK {
			t.Fatal(e)
		}
		all = append(all, deal{name, m, parts, matrix.Digest(m)})
	}
	return all
}

func of(seq, client int) api.Stamp { return api.Stamp{Seq: seq, Client: client} }

func listen(op int, key string) api.Msg { return api.Msg{Kind: api.MsgListen, Op: op, Key: key} }

func leave(op int, key string) api.Msg { return api.Msg{Kind: api.MsgLeave, Op: op, Key: key} }

func echo(key string, s api.Stamp, d deal) api.Msg {
	return api.Msg{Kind: api.MsgEcho, Key: key, Stamp: s, Digest: d.digest}
}

func ready(key string, s api.Stamp, d deal) api.Msg {
	return api.Msg{Kind: api.MsgReady, Key: key, Stamp: s, Digest: d.digest}
}

// propose is the message that gives a server with a number what was dealt to it.
func propose(op int, key string, s api.Stamp, d deal, number int) api.Msg {
	return api.Msg{Kind: api.MsgPropose, Op: op, Key: key, Stamp: s, Matrix: d.m, Ys: d.parts[number-1].Ys}
}

func mend(op int, key string, s api.Stamp, d deal, number int) api.Msg {
	m := propose(op, key, s, d, number)
	m.Kind = api.MsgMend
	return m
}

// given is what a server with a number keeps of a proposal.
func given(s api.Stamp, d deal, number, op int) api.Given {
	return api.Given{Stamp: s, Digest: d.digest, Matrix: d.m, Ys: d.parts[number-1].Ys, Op: op}
}

// copyOf is a message in memory of its own.
func copyOf(m api.Msg) api.Msg {
	m.Matrix, m.Ys = copyMatrix(m.Matrix), slices.Clone(m.Ys)
	return m
}

func copyMatrix(m api.Matrix) api.Matrix {
	m = slices.Clone(m)
	for k := range m {
		m[k] = slices.Clone(m[k])
	}
	return m
}

// bench is a server with those who talk to it.
type bench struct {
	t      testing.TB
	g      *group.Group
	s      *server.Server
	liars  int
	number int
	deals  []deal
}

func newServer(t testing.TB, g *group.Group, liars, number, clients int) *server.Server {
	t.Helper()
	s, e := server.New(g, liars, number, clients)
	if s == nil || e != api.OK {
		t.Fatalf("New(%d, %d, %d): %v, %d", liars, number, clients, s, e)
	}
	return s
}

func newBench(t testing.TB, liars, number, clients int) *bench {
	t.Helper()
	g := least(t)
	return &bench{t, g, newServer(t, g, liars, number, clients), liars, number, deals(t, g, liars)}
}

// shown is what goes out, as text: the end, the kind, the operation, the key, the stamp, the digest, and whether there are shares.
func (b *bench) shown(o api.Out) string {
	kinds := []string{"?", "listen", "leave", "state", "propose", "echo", "ready", "ack", "mend"}
	m := o.M
	text := fmt.Sprintf("%d %s %d %s %d.%d", o.To, kinds[m.Kind], m.Op, m.Key, m.Stamp.Seq, m.Stamp.Client)
	at := slices.IndexFunc(b.deals, func(d deal) bool { return d.digest == m.Digest })
	switch {
	case at >= 0:
		text += " " + b.deals[at].name
	case m.Digest != "":
		text += " ?"
	}
	switch {
	case len(m.Matrix) == 0 && len(m.Ys) == 0:
	case at >= 0 && sameMatrix(m.Matrix, b.deals[at].m) && slices.Equal(m.Ys, b.deals[at].parts[b.number-1].Ys):
		text += " shares"
	default:
		text += " WRONG"
	}
	if wire.Check(m) != api.OK {
		text += " MAY NOT BE"
	}
	return text
}

// check holds what goes out against texts, of which one that begins with * goes to all other servers.
func (b *bench) check(outs []api.Out, want ...string) {
	b.t.Helper()
	var all, got []string
	for _, text := range want {
		rest, toServers := strings.CutPrefix(text, "*")
		if !toServers {
			all = append(all, text)
			continue
		}
		for to := 1; to <= 3*b.liars+1; to++ {
			if to != b.number {
				all = append(all, fmt.Sprint(to)+rest)
			}
		}
	}
	for _, o := range outs {
		got = append(got, b.shown(o))
	}
	if !slices.Equal(got, all) {
		b.t.Errorf("goes out:\n%q, not\n%q", got, all)
	}
}

func (b *bench) step(from int, m api.Msg, want ...string) {
	b.t.Helper()
	b.check(b.s.Step(from, m), want...)
}

func (b *bench) tick(want ...string) {
	b.t.Helper()
	b.check(b.s.Tick(), want...)
}

func (b *bench) held(key string, s api.Stamp, digest string, has bool) {
	b.t.Helper()
	if p, d, h := b.s.Held(key); p != s || d != digest || h != has {
		b.t.Errorf("holds %d, %x, %v of %q, not %d, %x, %v", p, d, h, key, s, digest, has)
	}
}

// same looks whether nothing changed while something is done.
func (b *bench) same(do func()) {
	b.t.Helper()
	was := b.s.Image()
	do()
	if is := b.s.Image(); !sameImage(is, was) {
		b.t.Errorf("changed:\n%v, not\n%v", is, was)
	}
}

// still looks whether a message does nothing, and changes nothing.
func (b *bench) still(from int, m api.Msg) {
	b.t.Helper()
	b.same(func() {
		b.t.Helper()
		if outs := b.s.Step(from, m); len(outs) != 0 {
			b.t.Errorf("%v of %d: %v goes out", m, from, outs)
		}
	})
}

// Sv1: only of these liars, numbers and clients, and with a group, there is a server; it knows no key.
func TestNew(t *testing.T) {
	g := least(t)
	refused, _ := group.New(api.Params{})
	for _, liars := range someInts {
		for _, number := range someInts {
			for _, clients := range someInts {
				for _, none := range []*group.Group{nil, {}, refused} {
					if s, e := server.New(none, liars, number, clients); s != nil || e != api.ErrArg {
						t.Errorf("New(%d, %d, %d) without a group: %v, %d", liars, number, clients, s, e)
					}
				}
				s, e := server.New(g, liars, number, clients)
				may := (liars == 1 && number <= 4 || liars == 2 && number <= 7) && number >= 1 && 1 <= clients && clients <= 4
				if !may {
					if s != nil || e != api.ErrArg {
						t.Errorf("New(%d, %d, %d): %v, %d", liars, number, clients, s, e)
					}
					continue
				}
				if s == nil || e != api.OK {
					t.Fatalf("New(%d, %d, %d): %v, %d", liars, number, clients, s, e)
				}
				held, digest, has := s.Held("k")
				if len(s.Keys()) != 0 || held != of(0, 0) || digest != "" || has || len(s.Tick()) != 0 {
					t.Errorf("New(%d, %d, %d) knows something", liars, number, clients)
				}
				if x := s.Image(); !sameImage(x, newModel(g, liars, number, clients).image()) {
					t.Errorf("New(%d, %d, %d) has the state %v", liars, number, clients, x)
				}
			}
		}
	}
}

// Sv2: the example, and what comes behind.
func TestExample(t *testing.T) {
	b := newBench(t, 1, 2, 2)
	x := b.deals[0]
	b.step(1, echo("k", of(1, 1), x))
	b.step(3, echo("k", of(1, 1), x))
	b.step(4, echo("k", of(1, 1), x), "* ready 0 k 1.1 x")
	b.step(1, ready("k", of(1, 1), x))
	b.held("k", of(0, 0), "", false)
	b.step(3, ready("k", of(1, 1), x))
	b.held("k", of(1, 1), x.digest, false)
	b.step(4, ready("k", of(1, 1), x))
	b.step(5, listen(1, "k"), "5 state 1 k 1.1 x")
}

// Sv2: a write, and one behind it that comes too early, with a reader that listens.
func TestWritesByHeart(t *testing.T) {
	b := newBench(t, 1, 2, 2)
	x, y := b.deals[0], b.deals[1]
	b.step(6, listen(3, "k"), "6 state 3 k 0.0")
	b.step(5, propose(8, "k", of(2, 1), y, 2))
	b.step(5, propose(7, "k", of(1, 1), x, 2), "* echo 0 k 1.1 x")
	b.step(5, propose(7, "k", of(1, 1), x, 2))
	b.step(5, propose(7, "k", of(1, 1), y, 2))
	b.step(1, echo("k", of(1, 1), x))
	b.step(1, echo("k", of(1, 1), x))
	b.step(4, echo("k", of(1, 1), y))
	b.step(3, echo("k", of(1, 1), x), "* ready 0 k 1.1 x")
	b.step(1, ready("k", of(1, 1), x))
	b.step(4, ready("k", of(1, 1), y))
	b.tick("* echo 0 k 1.1 x", "* ready 0 k 1.1 x", "6 state 3 k 0.0")
	b.step(3, ready("k", of(1, 1), x), "6 state 3 k 1.1 x shares", "5 ack 7 k 1.1", "* echo 0 k 2.1 y")
	b.held("k", of(1, 1), x.digest, true)
	b.step(5, propose(9, "k", of(1, 1), x, 2), "5 ack 9 k 1.1")
	b.step(5, propose(9, "k", of(1, 1), y, 2), "5 ack 9 k 1.1")
	b.step(6, propose(4, "k", of(1, 2), x, 2), "* echo 0 k 1.2 x")
	b.step(5, listen(9, "k"), "5 state 9 k 1.1 x shares")
	b.tick("* echo 0 k 2.1 y", "* echo 0 k 1.1 x", "* ready 0 k 1.1 x", "* echo 0 k 1.2 x", "5 state 9 k 1.1 x shares", "6 state 3 k 1.1 x shares")
	b.step(1, ready("k", of(2, 1), y))
	b.step(6, leave(3, "k"))
	b.step(3, ready("k", of(2, 1), y), "* ready 0 k 2.1 y", "5 state 9 k 2.1 y shares", "5 ack 8 k 2.1", "6 ack 4 k 1.2")
	b.held("k", of(2, 1), y.digest, true)
	b.step(6, propose(4, "k", of(1, 2), x, 2), "6 ack 4 k 1.2")
	b.step(6, listen(3, "k"))
}

// Sv1, Sv3: keys are told sorted as bytes, and a key that is not known has nothing.
func TestKeys(t *testing.T) {
	b := newBench(t, 1, 4, 3)
	for k, key := range []string{"m", "\xff", "a", "M", "a\x00", "\x00"} {
		b.step(5+k%3, listen(k+1, key), fmt.Sprintf("%d state %d %s 0.0", 5+k%3, k+1, key))
	}
	want := []string{"\x00", "M", "a", "a\x00", "m", "\xff"}
	if got := b.s.Keys(); !slices.Equal(got, want) {
		t.Errorf("Keys(): %q", got)
	}
	var order []string
	for _, o := range b.s.Tick() {
		order = append(order, o.M.Key)
	}
	if !slices.Equal(order, want) {
		t.Errorf("Tick(): %q", order)
	}
	b.same(func() {
		for _, key := range append(want, "", "b", "aa", "123456789", "\x00\x00") {
			b.held(key, of(0, 0), "", false)
		}
	})
	if got := b.s.Keys(); !slices.Equal(got, want) {
		t.Errorf("Keys() now: %q", got)
	}
}

// kindsOf are one message of each kind, each of which does something with this key.
func kindsOf(b *bench, key string, client int) []api.Msg {
	x := b.deals[0]
	state := api.Msg{Kind: api.MsgState, Op: 1, Key: key, Stamp: of(1, client), Digest: x.digest}
	ack := api.Msg{Kind: api.MsgAck, Op: 1, Key: key, Stamp: of(1, client)}
	return []api.Msg{listen(1, key), leave(1, key), state, propose(1, key, of(1, client), x, b.number), echo(key, of(1, client), x), ready(key, of(1, client), x), ack, mend(1, key, of(1, client), x, b.number)}
}

// Sv2: who sends what: all kinds, from whatever end, also where the key is known.
func TestSenders(t *testing.T) {
	for liars := 1; liars <= 2; liars++ {
		n := 3*liars + 1
		for clients := 1; clients <= 4; clients++ {
			for _, number := range []int{1, n / 2, n} {
				for _, from := range someInts {
					for client := 1; client <= 4; client++ {
						b := newBench(t, liars, number, clients)
						isClient, isOther := n < from && from <= n+clients, 1 <= from && from <= n && from != number
						for _, m := range kindsOf(b, "k", client) {
							may := isClient
							switch m.Kind {
							case api.MsgState, api.MsgAck:
								may = false
							case api.MsgPropose:
								may = isClient && from == n+client
							case api.MsgEcho, api.MsgReady:
								may = isOther
							}
							s := newServer(t, b.g, liars, number, clients)
							b.s = s
							if !may {
								b.still(from, m)
							} else if s.Step(from, m); !slices.Equal(s.Keys(), []string{"k"}) {
								t.Errorf("%d servers, %d clients: the kind %d of %d is refused", n, clients, m.Kind, from)
							}
						}
					}
				}
			}
		}
	}
}

// Sv2: where a key is known, and all is there already, ends that do not send it change nothing.
func TestSendersKnown(t *testing.T) {
	b := newBench(t, 1, 2, 2)
	for _, client := range []int{1, 2} {
		b.s.Step(4+client, listen(5, "k"))
		b.s.Step(4+client, propose(6, "k", of(1, client), b.deals[1], 2))
	}
	for _, from := range someInts {
		for client := 1; client <= 4; client++ {
			for _, m := range kindsOf(b, "k", client) {
				m.Op = min(m.Op, 1) * 9
				isFrom := newModel(b.g, 1, 2, 2).isFrom(from, m)
				if !isFrom {
					b.still(from, m)
				}
			}
		}
	}
}

// Sv2: messages that may not be (layer 18) do nothing, and let no key be known.
func TestMayNotBe(t *testing.T) {
	b := newBench(t, 1, 2, 2)
	x := b.deals[0]
	from := func(m api.Msg) int {
		if m.Kind == api.MsgEcho || m.Kind == api.MsgReady {
			return 1
		}
		return 5
	}
	for _, good := range kindsOf(b, "k", 1) {
		for _, spoil := range []func(m *api.Msg){
			func(m *api.Msg) { m.Key = "" },
			func(m *api.Msg) { m.Key = "123456789" },
			func(m *api.Msg) { m.Op = -1 },
			func(m *api.Msg) { m.Op = maxOps + 1 },
			func(m *api.Msg) { m.Op ^= 1 },
			func(m *api.Msg) { m.Stamp.Client = 0 },
			func(m *api.Msg) { m.Stamp.Client = 5 },
			func(m *api.Msg) { m.Stamp.Seq = -1 },
			func(m *api.Msg) { m.Stamp.Seq = maxSeq + 1 },
			func(m *api.Msg) { m.Stamp.Seq ^= 1 },
			func(m *api.Msg) { m.Digest = m.Digest + "d" },
			func(m *api.Msg) { m.Matrix, m.Ys = x.m, append(slices.Clone(x.parts[1].Ys), nat.Of(1)) },
			func(m *api.Msg) { m.Matrix, m.Ys = x.m, nil },
			func(m *api.Msg) { m.Matrix, m.Ys = nil, x.parts[1].Ys },
			func(m *api.Msg) { m.Kind = 0 },
			func(m *api.Msg) { m.Kind = 9 },
			func(m *api.Msg) { m.Kind = -m.Kind },
			func(m *api.Msg) { m.Kind += 256 },
		} {
			m := copyOf(good)
			spoil(&m)
			if wire.Check(m) == api.OK {
				continue // a stamp may be none's, where one that is not there may be
			}
			b.still(from(m), m)
		}
	}
	if len(b.s.Keys()) != 0 {
		t.Errorf("Keys(): %q", b.s.Keys())
	}
}

// wrongDeals are messages that bring what a server can not take, made of one that it can.
func wrongDeals(b *bench, m api.Msg) []api.Msg {
	g, z := b.g, b.deals[2]
	others := deals(b.t, g, 3-b.liars)
	var all []api.Msg
	add := func(mx api.Matrix, ys []api.Nat) {
		w := m
		w.Matrix, w.Ys = mx, ys
		all = append(all, w)
	}
	right := z.parts[b.number-1].Ys
	for k := range z.parts {
		if k != b.number-1 {
			add(z.m, z.parts[k].Ys)
		}
	}
	for k := range right {
		for _, spoil := range []func(y api.Nat) api.Nat{
			func(y api.Nat) api.Nat { y[0] ^= 1; return y },
			func(y api.Nat) api.Nat { y[3] ^= 1 << 63; return y },
			func(y api.Nat) api.Nat { y, _ = nat.Add(y, g.Q()); return y },
			func(y api.Nat) api.Nat { return api.Nat{} },
		} {
			ys := slices.Clone(right)
			ys[k] = spoil(ys[k])
			add(z.m, ys)
		}
	}
	add(z.m, []api.Nat{right[1], right[0]})
	add(z.m, right[:1])
	add(z.m, append(slices.Clone(right), right[0]))
	add(nil, nil)
	add(z.m[:1], right)
	add(api.Matrix{z.m[1], z.m[0]}, right)
	add(others[2].m, right)
	add(others[2].m, others[2].parts[b.number%4].Ys)
	// Of commitments of which one is no member, but the product is right: the least number below P that is its own inverse.
	minus := nat.Of(1)
	minus, _ = nat.Sub(g.P(), minus)
	odd := copyMatrix(z.m)
	for k := range odd[0] {
		odd[0][k] = g.Ring().Mul(odd[0][k], minus)
	}
	add(odd, right)
	zero := copyMatrix(z.m)
	zero[1][0] = api.Nat{}
	add(zero, right)
	above := copyMatrix(z.m)
	above[1][1], _ = nat.Add(above[1][1], g.P())
	add(above, right)
	return all
}

// Sv2: a proposal, or what mends, is nothing, if its matrix may not be, or the server's own shares do not hold; and its key is not known by it.
func TestWrongShares(t *testing.T) {
	for liars := 1; liars <= 2; liars++ {
		for number := 1; number <= 3*liars+1; number++ {
			b := newBench(t, liars, number, 1)
			client := 3*liars + 2
			for _, kind := range []api.Msg{propose(1, "k", of(1, 1), b.deals[2], number), mend(1, "k", of(1, 1), b.deals[2], number)} {
				for _, m := range wrongDeals(b, kind) {
					b.still(client, m)
				}
				if len(b.s.Keys()) != 0 {
					t.Errorf("Keys(): %q", b.s.Keys())
				}
			}
			// Nor where it is known, and what was named is held.
			for from := 1; from <= 3*liars+1; from++ {
				b.s.Step(from, ready("k", of(1, 1), b.deals[2]))
			}
			b.held("k", of(1, 1), b.deals[2].digest, false)
			for _, kind := range []api.Msg{propose(1, "k", of(1, 1), b.deals[2], number), mend(1, "k", of(1, 1), b.deals[2], number)} {
				for _, m := range wrongDeals(b, kind) {
					b.still(client, m)
				}
			}
			b.step(client, mend(1, "k", of(1, 1), b.deals[2], number))
			b.held("k", of(1, 1), b.deals[2].digest, true)
		}
	}
}

// Sv2: a key that layer 22 refuses is nothing; one that is known, or that another end names, is not refused.
func TestQuota(t *testing.T) {
	b := newBench(t, 1, 3, 2)
	x := b.deals[0]
	for k, key := range []string{"a", "b", "c", "d"} {
		// Also what does nothing else lets a key be known.
		m := []api.Msg{leave(1, key), mend(1, key, of(1, 1), x, 3), propose(1, key, of(9, 1), x, 3), listen(2, key)}[k]
		b.s.Step(5, m)
	}
	for _, m := range kindsOf(b, "e", 1) {
		if m.Kind != api.MsgEcho && m.Kind != api.MsgReady {
			b.still(5, m)
		}
	}
	b.step(5, listen(3, "a"), "5 state 3 a 0.0")
	b.step(6, listen(3, "e"), "6 state 3 e 0.0")
	b.step(5, listen(3, "e"), "5 state 3 e 0.0")
	for k := range 32 {
		b.step(4, echo(fmt.Sprintf("s%d", k), of(1, 1), x))
	}
	b.still(4, echo("s32", of(1, 1), x))
	b.still(4, ready("s32", of(1, 1), x))
	b.step(1, ready("s32", of(1, 1), x))
	b.step(4, ready("s32", of(1, 1), x), "* ready 0 s32 1.1 x")
	if x := b.s.Image(); !slices.Equal(x.Used, []int{1, 0, 0, 32, 4, 1}) || len(x.Records) != 38 || len(b.s.Keys()) != 38 {
		t.Errorf("Used: %d of %d", x.Used, len(x.Records))
	}
}

// Sv2: a client listens to an operation that it did not leave, and is told, also again, and not to one ahead of it.
func TestListen(t *testing.T) {
	b := newBench(t, 1, 1, 2)
	b.step(5, listen(5, "k"), "5 state 5 k 0.0")
	b.step(5, listen(5, "k"), "5 state 5 k 0.0")
	b.still(5, listen(4, "k"))
	b.step(6, listen(4, "k"), "6 state 4 k 0.0")
	b.step(5, listen(6, "k"), "5 state 6 k 0.0")
	b.tick("5 state 6 k 0.0", "6 state 4 k 0.0")
	b.step(5, leave(5, "k"))
	b.tick("5 state 6 k 0.0", "6 state 4 k 0.0")
	b.step(5, listen(6, "k"), "5 state 6 k 0.0")
	b.still(5, leave(5, "k"))
	b.still(5, leave(4, "k"))
	b.step(5, leave(6, "k"))
	b.tick("6 state 4 k 0.0")
	b.still(5, listen(6, "k"))
	b.still(5, listen(1, "k"))
	b.step(5, listen(7, "k"), "5 state 7 k 0.0")
	b.step(5, leave(9, "k"))
	b.still(5, listen(9, "k"))
	b.step(5, listen(10, "k"), "5 state 10 k 0.0")
	b.still(5, leave(8, "k"))
	b.step(5, leave(maxOps-1, "k"))
	b.step(5, listen(maxOps, "k"), fmt.Sprintf("5 state %d k 0.0", maxOps))
	b.step(5, leave(maxOps, "k"))
	b.still(5, listen(maxOps, "k"))
	b.tick("6 state 4 k 0.0")
	// Each key on its own.
	b.step(5, listen(1, "q"), "5 state 1 q 0.0")
	b.tick("6 state 4 k 0.0", "5 state 1 q 0.0")
	// What was left ahead of all is not listened to.
	b.step(6, leave(3, "r"))
	b.still(6, listen(3, "r"))
	b.step(6, listen(4, "r"), "6 state 4 r 0.0")
	told := func(client, op, left int, key string) {
		t.Helper()
		for _, r := range b.s.Image().Records {
			if c := r.Clients[client-1]; r.Key == key && (c.Op != op || c.Left != left) {
				t.Errorf("%d of %q: %d, %d", client, key, c.Op, c.Left)
			}
		}
	}
	told(1, 0, maxOps, "k")
	told(2, 4, 0, "k")
	told(1, 1, 0, "q")
	told(2, 4, 3, "r")
}

// holding is a bench whose server holds a stamp and the first deal of the key k, without shares.
func holding(t testing.TB, number, clients int, s api.Stamp) *bench {
	t.Helper()
	b := newBench(t, 1, number, clients)
	for from := 1; from <= 4; from++ {
		b.s.Step(from, ready("k", s, b.deals[0]))
	}
	b.held("k", s, b.deals[0].digest, false)
	return b
}

// Sv2: what is held without shares is mended, by whatever client, and by a proposal; all listeners are told, and once.
func TestMend(t *testing.T) {
	x := deals(t, least(t), 1)[0]
	for _, by := range []struct {
		from int
		m    api.Msg
		ack  []string
	}{
		{5, mend(3, "k", of(7, 1), x, 2), nil},
		{6, mend(3, "k", of(7, 1), x, 2), nil},
		{7, mend(3, "k", of(7, 1), x, 2), nil},
		{5, propose(3, "k", of(7, 1), x, 2), []string{"5 ack 3 k 7.1"}},
	} {
		b := holding(t, 2, 3, of(7, 1))
		y := b.deals[1]
		b.step(7, listen(9, "k"), "7 state 9 k 7.1 x")
		b.step(5, listen(8, "k"), "5 state 8 k 7.1 x")
		// Another stamp, or another digest, is not what is held.
		for _, s := range []api.Stamp{of(6, 1), of(8, 1), of(7, 2), of(5, 1), of(9, 1), of(7, 3), of(7, 4), of(1, 1), of(maxSeq, 4)} {
			b.still(6, mend(3, "k", s, x, 2))
		}
		b.still(6, mend(3, "k", of(7, 1), y, 2))
		b.step(5, propose(4, "k", of(7, 1), y, 2), "5 ack 4 k 7.1")
		b.step(5, propose(4, "k", of(6, 1), x, 2), "5 ack 4 k 6.1")
		b.held("k", of(7, 1), x.digest, false)
		b.step(by.from, by.m, append([]string{"5 state 8 k 7.1 x shares", "7 state 9 k 7.1 x shares"}, by.ack...)...)
		b.held("k", of(7, 1), x.digest, true)
		b.same(func() { b.step(by.from, by.m, by.ack...) })
		b.tick("* ready 0 k 7.1 x", "5 state 8 k 7.1 x shares", "7 state 9 k 7.1 x shares")
	}
	// Where nothing is held, nothing is mended.
	b := newBench(t, 1, 2, 3)
	b.s.Step(5, listen(8, "k"))
	b.still(6, mend(3, "k", of(1, 1), x, 2))
}

// Sv2: a proposal is answered, taken, or waits, by its stamp and what is held: each number about it, of each client.
func TestPropose(t *testing.T) {
	for _, held := range []api.Stamp{of(0, 0), of(1, 2), of(4, 2), of(maxSeq-2, 2), of(maxSeq-1, 2), of(maxSeq, 2)} {
		for seq := held.Seq - 4; seq <= held.Seq+4; seq++ {
			for client := 1; client <= 3; client++ {
				if seq < 1 || seq > maxSeq {
					continue
				}
				b := newBench(t, 1, 2, 3)
				if held.Seq > 0 {
					b = holding(t, 2, 3, held)
				} else {
					b.s.Step(5, leave(1, "k"))
				}
				z, m := b.deals[2], propose(11, "k", of(seq, client), b.deals[2], 2)
				name := fmt.Sprintf("%d.%d", seq, client)
				r := b.s.Image().Records[0]
				switch c := &r.Clients[client-1]; {
				case seq < held.Seq || seq == held.Seq && client <= held.Client:
					b.step(4+client, m, fmt.Sprint(4+client)+" ack 11 k "+name)
				case seq <= held.Seq+1:
					b.step(4+client, m, "* echo 0 k "+name+" z")
					r.Echoes = []api.Vote{{Server: 2, Stamp: of(seq, client), Digest: z.digest}}
					if seq%2 == 0 {
						c.Even = given(of(seq, client), z, 2, 11)
					} else {
						c.Odd = given(of(seq, client), z, 2, 11)
					}
				default:
					b.step(4+client, m)
					c.Waits = given(of(seq, client), z, 2, 11)
				}
				if got := b.s.Image().Records[0]; !sameRecord(got, r) {
					t.Errorf("%s behind %d:\n%v, not\n%v", name, held, got, r)
				}
			}
		}
	}
}

// Sv2: in a place a proposal stays till one with a greater number comes; of one number the first one stays.
func TestPlaces(t *testing.T) {
	b := holding(t, 2, 2, of(5, 2))
	x, y := b.deals[0], b.deals[1]
	b.step(5, propose(1, "k", of(6, 1), x, 2), "* echo 0 k 6.1 x")
	b.still(5, propose(1, "k", of(6, 1), x, 2))
	b.still(5, propose(2, "k", of(6, 1), x, 2))
	b.still(5, propose(1, "k", of(6, 1), y, 2))
	b.step(6, propose(1, "k", of(6, 2), y, 2), "* echo 0 k 6.2 y")
	for from := 1; from <= 4; from++ {
		b.s.Step(from, ready("k", of(7, 2), x))
	}
	b.held("k", of(7, 2), x.digest, false)
	// Both were answered, but stand there still, and the next ones come beside them, or to their places.
	r := b.s.Image().Records[0]
	if !sameGiven(r.Clients[0].Even, given(of(6, 1), x, 2, 0)) || !sameGiven(r.Clients[1].Even, given(of(6, 2), y, 2, 0)) {
		t.Errorf("%v", r.Clients)
	}
	b.step(5, propose(3, "k", of(8, 1), y, 2), "* echo 0 k 8.1 y")
	b.step(6, propose(3, "k", of(8, 2), y, 2), "* echo 0 k 8.2 y")
	b.step(5, propose(3, "k", of(7, 1), y, 2), "5 ack 3 k 7.1")
	r = b.s.Image().Records[0]
	if !sameGiven(r.Clients[0].Even, given(of(8, 1), y, 2, 3)) || !sameGiven(r.Clients[0].Odd, api.Given{}) {
		t.Errorf("%v", r.Clients)
	}
	b.tick("* echo 0 k 8.1 y", "* echo 0 k 8.2 y", "* ready 0 k 7.2 x")
}

// Sv2: the greatest number waits; it is taken once the server is as far, and answered, if that is further.
func TestWaits(t *testing.T) {
	waiting := func() *bench {
		b := newBench(t, 1, 2, 2)
		b.step(5, propose(1, "k", of(4, 1), b.deals[0], 2))
		b.still(5, propose(1, "k", of(3, 1), b.deals[1], 2))
		b.still(5, propose(2, "k", of(4, 1), b.deals[1], 2))
		b.step(5, propose(3, "k", of(5, 1), b.deals[1], 2))
		b.step(6, propose(4, "k", of(6, 2), b.deals[2], 2))
		return b
	}
	// hold lets the server hold a stamp; what goes out is told by the last vote.
	hold := func(b *bench, s api.Stamp, want ...string) {
		b.t.Helper()
		b.s.Step(1, ready("k", s, b.deals[0]))
		b.step(3, ready("k", s, b.deals[0]), append([]string{fmt.Sprintf("* ready 0 k %d.%d x", s.Seq, s.Client)}, want...)...)
		b.held("k", s, b.deals[0].digest, false)
	}
	b := waiting()
	hold(b, of(3, 1))
	hold(b, of(4, 1), "* echo 0 k 5.1 y")
	hold(b, of(5, 2), "5 ack 3 k 5.1", "* echo 0 k 6.2 z")
	hold(b, of(6, 1))
	hold(b, of(6, 2), "6 ack 4 k 6.2")
	if c := b.s.Image().Records[0].Clients; !sameGiven(c[0].Odd, given(of(5, 1), b.deals[1], 2, 0)) || !sameGiven(c[1].Even, given(of(6, 2), b.deals[2], 2, 0)) || !sameGiven(c[0].Waits, api.Given{}) || !sameGiven(c[1].Waits, api.Given{}) {
		t.Errorf("%v", c)
	}
	// Both at once, by the clients' numbers.
	b = waiting()
	hold(b, of(5, 3), "5 ack 3 k 5.1", "* echo 0 k 6.2 z")
	b = waiting()
	hold(b, of(4, 4), "* echo 0 k 5.1 y")
	b = waiting()
	b.step(5, propose(5, "k", of(6, 1), b.deals[2], 2))
	hold(b, of(5, 1), "* echo 0 k 6.1 z", "* echo 0 k 6.2 z")
	// Too far: it is answered where it waits, and is not taken any more.
	b = waiting()
	hold(b, of(9, 1), "5 ack 3 k 5.1", "6 ack 4 k 6.2")
	if c := b.s.Image().Records[0].Clients; !sameGiven(c[0].Waits, given(of(5, 1), b.deals[1], 2, 0)) || !sameGiven(c[1].Waits, given(of(6, 2), b.deals[2], 2, 0)) || !sameGiven(c[0].Odd, api.Given{}) {
		t.Errorf("%v", c)
	}
	hold(b, of(10, 1))
	b.step(5, propose(6, "k", of(12, 1), b.deals[1], 2))
	hold(b, of(11, 1), "* echo 0 k 12.1 y")
	// What waits is held with its shares.
	b = waiting()
	b.s.Step(6, listen(4, "k"))
	b.s.Step(1, ready("k", of(6, 2), b.deals[2]))
	b.step(4, ready("k", of(6, 2), b.deals[2]), "* ready 0 k 6.2 z", "6 state 4 k 6.2 z shares", "5 ack 3 k 5.1", "6 ack 4 k 6.2")
	b.held("k", of(6, 2), b.deals[2].digest, true)
	// Not with those of another digest, or stamp.
	b = waiting()
	hold(b, of(6, 2), "5 ack 3 k 5.1", "6 ack 4 k 6.2")
	b = waiting()
	b.s.Step(1, ready("k", of(6, 1), b.deals[2]))
	b.s.Step(4, ready("k", of(6, 1), b.deals[2]))
	b.held("k", of(6, 1), b.deals[2].digest, false)
}

// Sv2: proposals are answered by the clients' numbers, of each even, odd, and what waits, all behind the listeners.
func TestAnswers(t *testing.T) {
	b := holding(t, 2, 3, of(5, 3))
	for client := 3; client >= 1; client-- {
		b.s.Step(4+client, listen(20+client, "k"))
		b.s.Step(4+client, propose(10+client, "k", of(6, client), b.deals[1], 2))
	}
	for from := 1; from <= 4; from++ {
		b.s.Step(from, ready("k", of(6, 0+4), b.deals[0]))
	}
	// Six was answered to all; now seven, eight, and what waits, of each.
	for client := 1; client <= 3; client++ {
		b.s.Step(4+client, propose(30+client, "k", of(7, client), b.deals[1], 2))
	}
	x := b.s.Image()
	for k := range x.Records[0].Clients {
		c := &x.Records[0].Clients[k]
		c.Even = given(of(8, k+1), b.deals[2], 2, 40+k+1)
		c.Waits = given(of(9, k+1), b.deals[0], 2, 50+k+1)
	}
	s, e := server.Of(b.g, x)
	if e != api.OK {
		t.Fatal(e)
	}
	b.s = s
	b.s.Step(1, ready("k", of(9, 2), b.deals[1]))
	b.step(3, ready("k", of(9, 2), b.deals[1]), "* ready 0 k 9.2 y",
		"5 state 21 k 9.2 y", "6 state 22 k 9.2 y", "7 state 23 k 9.2 y",
		"5 ack 41 k 8.1", "5 ack 31 k 7.1", "5 ack 51 k 9.1",
		"6 ack 42 k 8.2", "6 ack 32 k 7.2", "6 ack 52 k 9.2",
		"7 ack 43 k 8.3", "7 ack 33 k 7.3",
		"* echo 0 k 9.3 x")
	// The one that is later than what is held is taken, and answered later.
	b.s.Step(1, ready("k", of(9, 3), b.deals[0]))
	b.step(3, ready("k", of(9, 3), b.deals[0]), "* ready 0 k 9.3 x",
		"5 state 21 k 9.3 x shares", "6 state 22 k 9.3 x shares", "7 state 23 k 9.3 x shares", "7 ack 53 k 9.3")
}

// masks are the servers that a choice has.
func masks(n int, which uint) []int {
	var list []int
	for k := range n {
		if which>>k&1 != 0 {
			list = append(list, k+1)
		}
	}
	return list
}

// Sv2: each choice of servers that echo, and that are ready: when the server is ready, and when it holds.
func TestQuorums(t *testing.T) {
	g := least(t)
	for liars := 1; liars <= 2; liars++ {
		n, d := 3*liars+1, deals(t, g, liars)
		for _, number := range []int{1, n} {
			for echoes := range uint(1) << n {
				for readies := range uint(1) << n {
					if liars == 2 && (echoes*31+readies*7)%11 != 0 {
						continue // all would be too many
					}
					checkQuorum(t, newServer(t, g, liars, number, 1), d, liars, number, echoes, readies)
				}
			}
		}
	}
}

// checkQuorum lets servers vote: some for a deal, all others for another one.
func checkQuorum(t *testing.T, s *server.Server, d []deal, liars, number int, echoes, readies uint) {
	t.Helper()
	n := 3*liars + 1
	other := []deal{d[1], d[2]}
	sent := 0
	countReady := func(outs []api.Out) {
		for _, o := range outs {
			if o.M.Kind == api.MsgReady && o.M.Digest == d[0].digest {
				sent++
			}
		}
	}
	own := echoes>>(number-1)&1 != 0
	if own {
		countReady(s.Step(n+1, propose(1, "k", of(1, 1), d[0], number)))
	}
	for k := 1; k <= n; k++ {
		which := other[k%2]
		if echoes>>(k-1)&1 != 0 {
			which = d[0]
		}
		countReady(s.Step(k, echo("k", of(1, 1), which)))
	}
	mine := readies &^ (1 << (number - 1))
	for _, k := range masks(n, mine) {
		countReady(s.Step(k, ready("k", of(1, 1), d[0])))
	}
	isReady := bits.OnesCount(echoes) > 2*liars || bits.OnesCount(mine) > liars
	want := 0
	if isReady {
		want = n - 1
	}
	if sent != want {
		t.Errorf("%d of %d: echoes %b, readies %b: %d are told that it is ready", number, n, echoes, mine, sent)
	}
	holds := bits.OnesCount(mine) > 2*liars || isReady && bits.OnesCount(mine) == 2*liars
	held, digest, has := s.Held("k")
	if holds != (held == of(1, 1)) || holds != (digest == d[0].digest) || has != (holds && own) {
		t.Errorf("%d of %d: echoes %b, readies %b: holds %d, %v", number, n, echoes, mine, held, has)
	}
}

// Sv2: who votes is counted once, with its latest vote, and only for just this stamp and digest.
func TestVotes(t *testing.T) {
	b := newBench(t, 1, 1, 1)
	x, y := b.deals[0], b.deals[1]
	b.step(2, echo("k", of(1, 1), x))
	b.still(2, echo("k", of(1, 1), x))
	b.still(2, echo("k", of(1, 1), y))
	b.step(3, echo("k", of(1, 1), y))
	b.step(3, echo("k", of(1, 2), x))
	b.step(3, echo("k", of(2, 1), x))
	b.step(3, echo("q", of(1, 1), x))
	b.step(4, echo("k", of(1, 1), x))
	b.step(5, propose(1, "k", of(1, 1), x, 1), "* echo 0 k 1.1 x", "* ready 0 k 1.1 x")
	// A vote that another one follows in its place counts no more.
	b = newBench(t, 2, 1, 1)
	x = b.deals[0]
	b.step(2, ready("k", of(1, 1), x))
	b.step(2, ready("k", of(3, 1), x))
	b.step(3, ready("k", of(1, 1), x))
	b.step(4, ready("k", of(1, 1), x))
	b.still(2, ready("k", of(1, 1), x))
	b.step(3, ready("k", of(3, 1), x))
	b.step(5, ready("k", of(3, 1), x), "* ready 0 k 3.1 x")
	// Its own vote for 1 can't be put any more, as there is one for 3: the others would have to do without it.
	b.step(6, ready("k", of(1, 1), x))
	b.step(7, ready("k", of(1, 1), x))
	b.held("k", of(0, 0), "", false)
	b.step(6, ready("k", of(3, 1), x))
	b.held("k", of(3, 1), x.digest, false)
}

// Sv2: of what is held already, or ahead of it, nothing is held again.
func TestHoldsLater(t *testing.T) {
	for _, s := range []api.Stamp{of(1, 1), of(4, 4), of(5, 1), of(5, 2), of(5, 3), of(6, 1), of(9, 4), of(maxSeq, 4)} {
		b := holding(t, 2, 2, of(5, 2))
		b.s.Step(6, listen(1, "k"))
		for from := 1; from <= 4; from++ {
			b.s.Step(from, ready("k", s, b.deals[1]))
		}
		if s.Seq > 5 || s.Seq == 5 && s.Client > 2 {
			b.held("k", s, b.deals[1].digest, false)
		} else {
			b.held("k", of(5, 2), b.deals[0].digest, false)
		}
	}
}

// Sv2: servers may vouch for stamps of clients that there are not; of these nothing was proposed.
func TestOtherClients(t *testing.T) {
	for clients := 1; clients <= 4; clients++ {
		for client := 1; client <= 4; client++ {
			b := holding(t, 3, clients, of(3, client))
			x := b.s.Image()
			if s, e := server.Of(b.g, x); e != api.OK || !sameImage(s.Image(), x) {
				t.Errorf("%d of %d: %d", client, clients, e)
			}
			if len(x.Records[0].Readies) != 4 {
				t.Errorf("%d of %d: %v", client, clients, x.Records[0].Readies)
			}
			b.step(5, propose(2, "k", of(4, 1), b.deals[0], 3), "* echo 0 k 4.1 x")
		}
	}
}

// Sv3: of each key and client, even, then odd, the echo and the ready; then the listeners; nothing is changed.
func TestTick(t *testing.T) {
	b := newBench(t, 1, 3, 2)
	x, y := b.deals[0], b.deals[1]
	hold := func(key string, s api.Stamp, d deal) {
		for from := 1; from <= 4; from++ {
			b.s.Step(from, ready(key, s, d))
		}
	}
	b.tick()
	b.step(6, listen(2, "b"), "6 state 2 b 0.0")
	b.step(5, listen(1, "b"), "5 state 1 b 0.0")
	b.step(5, listen(9, "a"), "5 state 9 a 0.0")
	b.tick("5 state 9 a 0.0", "5 state 1 b 0.0", "6 state 2 b 0.0")
	b.step(6, propose(3, "b", of(1, 2), y, 3), "* echo 0 b 1.2 y")
	b.tick("5 state 9 a 0.0", "* echo 0 b 1.2 y", "5 state 1 b 0.0", "6 state 2 b 0.0")
	b.step(5, propose(4, "b", of(1, 1), x, 3), "* echo 0 b 1.1 x")
	hold("b", of(1, 2), y)
	b.step(6, propose(5, "b", of(2, 2), x, 3), "* echo 0 b 2.2 x")
	hold("b", of(2, 1), x)
	hold("a", of(1, 2), x)
	b.step(6, propose(6, "a", of(2, 2), y, 3), "* echo 0 a 2.2 y")
	want := []string{
		"* echo 0 a 2.2 y", "* ready 0 a 1.2 x", "5 state 9 a 1.2 x",
		"* ready 0 b 2.1 x", "* echo 0 b 1.1 x", "* echo 0 b 2.2 x", "* echo 0 b 1.2 y", "* ready 0 b 1.2 y",
		"5 state 1 b 2.1 x", "6 state 2 b 2.1 x",
	}
	for range 3 {
		b.same(func() { b.tick(want...) })
	}
}

// Sv5: a state told by hand, of a server that has all kinds of things.
func TestImageByHeart(t *testing.T) {
	b := newBench(t, 1, 2, 2)
	x, y, z := b.deals[0], b.deals[1], b.deals[2]
	for _, from := range []int{1, 3, 4} {
		b.s.Step(from, ready("k", of(1, 1), x))
	}
	b.s.Step(5, mend(1, "k", of(1, 1), x, 2))
	b.s.Step(4, echo("k", of(2, 1), y))
	b.s.Step(4, echo("k", of(1, 2), y))
	b.s.Step(4, echo("k", of(9, 3), y))
	b.s.Step(3, echo("k", of(6, 4), z))
	b.s.Step(6, propose(5, "k", of(1, 2), z, 2))
	b.s.Step(6, propose(7, "k", of(4, 2), x, 2))
	b.s.Step(5, propose(6, "k", of(2, 1), y, 2))
	b.s.Step(6, listen(9, "k"))
	b.s.Step(6, leave(8, "k"))
	b.s.Step(6, leave(8, "a"))
	b.s.Step(4, ready("b", of(1, 1), x))
	vote := func(server, seq, client int, d deal) api.Vote {
		return api.Vote{Server: server, Stamp: of(seq, client), Digest: d.digest}
	}
	want := api.Image{T: 1, Number: 2, Clients: 2, Used: []int{1, 0, 0, 1, 0, 1}, Records: []api.Record{
		{Key: "a", Clients: []api.Told{{}, {Left: 8}}},
		{Key: "b", Readies: []api.Vote{vote(4, 1, 1, x)}, Clients: []api.Told{{}, {}}},
		{Key: "k", Held: given(of(1, 1), x, 2, 0),
			Echoes:  []api.Vote{vote(2, 2, 1, y), vote(2, 1, 2, z), vote(3, 6, 4, z), vote(4, 2, 1, y), vote(4, 1, 2, y), vote(4, 9, 3, y)},
			Readies: []api.Vote{vote(1, 1, 1, x), vote(2, 1, 1, x), vote(3, 1, 1, x), vote(4, 1, 1, x)},
			Clients: []api.Told{
				{Even: given(of(2, 1), y, 2, 6)},
				{Odd: given(of(1, 2), z, 2, 5), Waits: given(of(4, 2), x, 2, 7), Op: 9, Left: 8},
			}},
	}}
	got := b.s.Image()
	if !sameImage(got, want) {
		t.Errorf("the state is\n%v, not\n%v", got, want)
	}
	s, e := server.Of(b.g, want)
	if e != api.OK || !sameImage(s.Image(), want) {
		t.Errorf("Of: %d\n%v, not\n%v", e, s.Image(), want)
	}
}

// rich is a state of all kinds of things, in new memory.
func rich(d []deal) api.Image {
	vote := func(server, seq, client, k int) api.Vote {
		return api.Vote{Server: server, Stamp: of(seq, client), Digest: d[k].digest}
	}
	put := func(s api.Stamp, k, op int) api.Given {
		x := given(s, d[k], 2, op)
		x.Matrix, x.Ys = copyMatrix(x.Matrix), slices.Clone(x.Ys)
		return x
	}
	bare := func(s api.Stamp, k, op int) api.Given { return api.Given{Stamp: s, Digest: d[k].digest, Op: op} }
	return api.Image{T: 1, Number: 2, Clients: 2, Used: []int{32, 0, 0, 2, 4, 1}[:6:6], Records: append(spare(36), []api.Record{
		{Key: "y", Clients: []api.Told{{}, {Op: maxOps, Left: maxOps}}},
		{Key: "z", Held: put(of(3, 1), 0, 0),
			Echoes:  []api.Vote{vote(1, 4, 1, 0), vote(1, 3, 1, 1), vote(1, 8, 2, 2), vote(2, 3, 1, 0), vote(4, 1, 4, 0), vote(4, maxSeq, 3, 1)}[:5],
			Readies: []api.Vote{vote(1, 3, 1, 0), vote(2, 3, 1, 0), vote(3, 3, 1, 1), vote(4, 2, 3, 2), vote(4, 7, 3, 2)},
			Clients: []api.Told{
				{Even: put(of(4, 1), 1, 5), Odd: put(of(3, 1), 2, 0), Waits: put(of(6, 1), 2, 6), Op: 7, Left: 6},
				{Even: bare(of(2, 2), 0, 0), Waits: bare(of(5, 2), 1, maxOps), Left: 3},
			}},
		{Key: "zz", Held: bare(of(maxSeq, 4), 1, 0), Clients: []api.Told{{}, {Odd: put(of(maxSeq-1, 2), 2, 1)}}},
	}...)}
}

// spare are records of which nothing is known.
func spare(count int) []api.Record {
	var list []api.Record
	for k := range count {
		list = append(list, api.Record{Key: fmt.Sprintf("s%02d", k), Clients: make([]api.Told, 2)})
	}
	return list
}

// change is something that is changed in a state.
type change struct {
	name string
	do   func(x *api.Image, r *api.Record)
}

// checkChanges lets Of look at the rich state, changed; r is its record of z.
func checkChanges(t *testing.T, may bool, all []change) {
	t.Helper()
	g := least(t)
	d := deals(t, g, 1)
	for _, c := range all {
		x := rich(d)
		c.do(&x, &x.Records[37])
		s, e := server.Of(g, x)
		if !may && (s != nil || e != api.ErrArg) {
			t.Errorf("%s: %d", c.name, e)
		}
		if may && (e != api.OK || !sameImage(s.Image(), x)) {
			t.Errorf("%s: %d, %v", c.name, e, s.Image())
		}
	}
}

// Sv5: states that may be, also at the limits, and those that no server comes to by itself.
func TestOfMay(t *testing.T) {
	d := deals(t, least(t), 1)
	checkChanges(t, true, []change{
		{"nothing", func(x *api.Image, r *api.Record) {}},
		{"used otherwise", func(x *api.Image, r *api.Record) { x.Used = []int{32, 2, 1, 0, 4, 0} }},
		{"no records", func(x *api.Image, r *api.Record) { x.Records, x.Used = nil, make([]int, 6) }},
		{"empty lists", func(x *api.Image, r *api.Record) { r.Echoes, r.Readies = []api.Vote{}, []api.Vote{} }},
		{"an empty matrix", func(x *api.Image, r *api.Record) { r.Held.Matrix, r.Held.Ys = api.Matrix{}, []api.Nat{} }},
		{"an empty one that is zero", func(x *api.Image, r *api.Record) { r.Held = api.Given{Matrix: api.Matrix{}, Ys: []api.Nat{}} }},
		{"a key of 8 bytes", func(x *api.Image, r *api.Record) { x.Records[38].Key = "zzzzzzzz" }},
		{"a key of bytes", func(x *api.Image, r *api.Record) { x.Records[38].Key = "\xff\x00" }},
		{"held of another client", func(x *api.Image, r *api.Record) { r.Held.Stamp.Client = 4 }},
		{"held, the least", func(x *api.Image, r *api.Record) { r.Held.Stamp = of(1, 1) }},
		{"held, the greatest", func(x *api.Image, r *api.Record) { r.Held.Stamp = of(maxSeq, 4) }},
		{"held without shares", func(x *api.Image, r *api.Record) { r.Held.Matrix, r.Held.Ys = nil, nil }},
		{"held is none", func(x *api.Image, r *api.Record) { r.Held = api.Given{} }},
		{"any digest without a matrix", func(x *api.Image, r *api.Record) { r.Clients[1].Waits.Digest = strings.Repeat("\x00", 32) }},
		{"even behind odd", func(x *api.Image, r *api.Record) { r.Clients[0].Even.Stamp.Seq = 2 }},
		{"waits, the same", func(x *api.Image, r *api.Record) { r.Clients[0].Waits = r.Clients[0].Even }},
		{"waits, odd", func(x *api.Image, r *api.Record) { r.Clients[0].Waits.Stamp.Seq = 1 }},
		{"waits, answered", func(x *api.Image, r *api.Record) { r.Clients[0].Waits.Op = 0 }},
		{"an operation at the limit", func(x *api.Image, r *api.Record) { r.Clients[0].Even.Op = maxOps }},
		{"listens to what it left", func(x *api.Image, r *api.Record) { r.Clients[0].Op, r.Clients[0].Left = 1, maxOps }},
		{"two rows", func(x *api.Image, r *api.Record) { r.Held = given(of(3, 1), d[2], 2, 0) }},
		{"many votes", func(x *api.Image, r *api.Record) {
			r.Readies = nil
			for server := 1; server <= 4; server++ {
				for client := 1; client <= 4; client++ {
					for odd := range 2 {
						r.Readies = append(r.Readies, api.Vote{Server: server, Stamp: of(maxSeq-2*server+odd, client), Digest: strings.Repeat("v", 32)})
					}
				}
			}
		}},
	})
}

// Sv5: numbers, keys and what was used, that may not be.
func TestOfRefused(t *testing.T) {
	checkChanges(t, false, []change{
		{"T 0", func(x *api.Image, r *api.Record) { x.T = 0 }},
		{"T 2", func(x *api.Image, r *api.Record) { x.T = 2 }},
		{"T 3", func(x *api.Image, r *api.Record) { x.T = 3 }},
		{"T -1", func(x *api.Image, r *api.Record) { x.T = -1 }},
		{"Number 0", func(x *api.Image, r *api.Record) { x.Number = 0 }},
		{"Number 5", func(x *api.Image, r *api.Record) { x.Number = 5 }},
		{"another Number", func(x *api.Image, r *api.Record) { x.Number = 3 }},
		{"Clients 0", func(x *api.Image, r *api.Record) { x.Clients = 0 }},
		{"Clients 5", func(x *api.Image, r *api.Record) { x.Clients = 5 }},
		{"fewer Clients", func(x *api.Image, r *api.Record) { x.Clients = 1 }},
		{"more Clients", func(x *api.Image, r *api.Record) { x.Clients = 3 }},
		{"more Clients, used", func(x *api.Image, r *api.Record) { x.Clients, x.Used = 3, append(x.Used, 0) }},
		{"fewer Used", func(x *api.Image, r *api.Record) { x.Used = []int{32, 0, 0, 2, 5} }},
		{"more Used", func(x *api.Image, r *api.Record) { x.Used = append(x.Used, 0) }},
		{"no Used", func(x *api.Image, r *api.Record) { x.Used = nil }},
		{"one too few", func(x *api.Image, r *api.Record) { x.Used[0]-- }},
		{"one too many", func(x *api.Image, r *api.Record) { x.Used[1]++ }},
		{"over a server's quota", func(x *api.Image, r *api.Record) { x.Used[0], x.Used[3] = 33, 1 }},
		{"over a client's quota", func(x *api.Image, r *api.Record) { x.Used[3], x.Used[4] = 1, 5 }},
		{"below 0", func(x *api.Image, r *api.Record) { x.Used[1], x.Used[3] = -1, 3 }},
		{"not sorted", func(x *api.Image, r *api.Record) { x.Records[0], x.Records[1] = x.Records[1], x.Records[0] }},
		{"a key twice", func(x *api.Image, r *api.Record) { x.Records[0].Key = x.Records[1].Key }},
		{"no key", func(x *api.Image, r *api.Record) { x.Records[0].Key = "" }},
		{"a key of 9 bytes", func(x *api.Image, r *api.Record) { x.Records[38].Key = "zzzzzzzzz" }},
		{"one record too few", func(x *api.Image, r *api.Record) { x.Records = x.Records[1:] }},
		{"no records", func(x *api.Image, r *api.Record) { x.Records = nil }},
		{"fewer clients of a record", func(x *api.Image, r *api.Record) { r.Clients = r.Clients[:1] }},
		{"no clients of a record", func(x *api.Image, r *api.Record) { r.Clients = nil }},
		{"more clients of a record", func(x *api.Image, r *api.Record) { r.Clients = append(r.Clients, api.Told{}) }},
		{"fewer clients of the last record", func(x *api.Image, r *api.Record) { x.Records[38].Clients = x.Records[38].Clients[:1] }},
		{"Op -1", func(x *api.Image, r *api.Record) { r.Clients[0].Op = -1 }},
		{"Op too great", func(x *api.Image, r *api.Record) { r.Clients[1].Op = maxOps + 1 }},
		{"Left -1", func(x *api.Image, r *api.Record) { r.Clients[1].Left = -1 }},
		{"Left too great", func(x *api.Image, r *api.Record) { r.Clients[0].Left = maxOps + 1 }},
		{"held with an Op", func(x *api.Image, r *api.Record) { r.Held.Op = 1 }},
		{"held none with an Op", func(x *api.Image, r *api.Record) { r.Held = api.Given{Op: 1} }},
	})
}

// Sv5: a value that was given may not be so, wherever it stands.
func TestOfGiven(t *testing.T) {
	g := least(t)
	d, others := deals(t, g, 1), deals(t, g, 2)
	spoil := []struct {
		name string
		do   func(x *api.Given)
	}{
		{"Seq 0", func(x *api.Given) { x.Stamp.Seq = 0 }},
		{"Seq below 0", func(x *api.Given) { x.Stamp.Seq = -x.Stamp.Seq }},
		{"Seq too great", func(x *api.Given) { x.Stamp.Seq = maxSeq + 1 + x.Stamp.Seq%2 }},
		{"Client 0", func(x *api.Given) { x.Stamp.Client = 0 }},
		{"Client 5", func(x *api.Given) { x.Stamp.Client = 5 }},
		{"no stamp", func(x *api.Given) { x.Stamp = api.Stamp{} }},
		{"no digest", func(x *api.Given) { x.Digest = "" }},
		{"a short digest", func(x *api.Given) { x.Digest = x.Digest[:31] }},
		{"a long digest", func(x *api.Given) { x.Digest += "d" }},
		{"another digest", func(x *api.Given) { x.Digest = others[0].digest }},
		{"Op -1", func(x *api.Given) { x.Op = -1 }},
		{"Op too great", func(x *api.Given) { x.Op = maxOps + 1 }},
		{"only a digest", func(x *api.Given) { *x = api.Given{Digest: x.Digest} }},
		{"only an Op", func(x *api.Given) { *x = api.Given{Op: 1} }},
		{"only a matrix", func(x *api.Given) { *x = api.Given{Matrix: x.Matrix} }},
		{"only shares", func(x *api.Given) { *x = api.Given{Ys: x.Ys} }},
		{"only a stamp", func(x *api.Given) { *x = api.Given{Stamp: x.Stamp} }},
		{"no matrix", func(x *api.Given) { x.Matrix = nil }},
		{"no shares", func(x *api.Given) { x.Ys = nil }},
		{"one row too few", func(x *api.Given) { x.Matrix = x.Matrix[:1] }},
		{"a share too few", func(x *api.Given) { x.Ys = x.Ys[:1] }},
		{"a share too many", func(x *api.Given) { x.Ys = append(x.Ys, x.Ys[0]) }},
		{"another server's shares", func(x *api.Given) { x.Ys = d[2].parts[2].Ys }},
		{"shares by Q", func(x *api.Given) { x.Ys[1], _ = nat.Add(x.Ys[1], g.Q()) }},
		{"a wrong share", func(x *api.Given) { x.Ys[1][0] ^= 1 }},
		{"another matrix", func(x *api.Given) { x.Matrix = copyMatrix(d[1].m); x.Ys = d[1].parts[1].Ys }},
		{"a matrix for more liars", func(x *api.Given) {
			x.Matrix, x.Ys, x.Digest = others[2].m, others[2].parts[1].Ys, others[2].digest
		}},
		{"no member", func(x *api.Given) {
			minus, _ := nat.Sub(g.P(), nat.Of(1))
			for k := range x.Matrix[0] {
				x.Matrix[0][k] = g.Ring().Mul(x.Matrix[0][k], minus)
			}
			x.Digest = matrix.Digest(x.Matrix)
		}},
		{"no rows, of this digest", func(x *api.Given) { x.Matrix, x.Digest = nil, matrix.Digest(nil) }},
	}
	for _, place := range []struct {
		name string
		of   func(r *api.Record) *api.Given
		s    api.Stamp
	}{
		{"held", func(r *api.Record) *api.Given { return &r.Held }, of(3, 1)},
		{"even of 1", func(r *api.Record) *api.Given { return &r.Clients[0].Even }, of(4, 1)},
		{"odd of 1", func(r *api.Record) *api.Given { return &r.Clients[0].Odd }, of(3, 1)},
		{"waits of 1", func(r *api.Record) *api.Given { return &r.Clients[0].Waits }, of(4, 1)},
		{"even of 2", func(r *api.Record) *api.Given { return &r.Clients[1].Even }, of(4, 2)},
		{"odd of 2", func(r *api.Record) *api.Given { return &r.Clients[1].Odd }, of(3, 2)},
		{"waits of 2", func(r *api.Record) *api.Given { return &r.Clients[1].Waits }, of(9, 2)},
	} {
		good := func(r *api.Record) *api.Given {
			x := place.of(r)
			*x = given(place.s, d[2], 2, 0)
			x.Matrix, x.Ys = copyMatrix(x.Matrix), slices.Clone(x.Ys)
			return x
		}
		checkChanges(t, true, []change{{place.name, func(_ *api.Image, r *api.Record) { good(r) }}})
		for _, s := range spoil {
			checkChanges(t, false, []change{{place.name + ": " + s.name, func(_ *api.Image, r *api.Record) { s.do(good(r)) }}})
		}
	}
	// Each place has its own numbers and client.
	checkChanges(t, false, []change{
		{"even with an odd number", func(_ *api.Image, r *api.Record) { r.Clients[0].Even.Stamp.Seq = 5 }},
		{"even as odd", func(_ *api.Image, r *api.Record) { r.Clients[0].Even = r.Clients[0].Odd }},
		{"odd as even", func(_ *api.Image, r *api.Record) { r.Clients[0].Odd = r.Clients[0].Even }},
		{"odd with an even number", func(_ *api.Image, r *api.Record) { r.Clients[0].Odd.Stamp.Seq = 2 }},
		{"even and odd turned round", func(_ *api.Image, r *api.Record) {
			c := &r.Clients[0]
			c.Even, c.Odd = c.Odd, c.Even
		}},
		{"even of another client", func(_ *api.Image, r *api.Record) { r.Clients[0].Even.Stamp.Client = 2 }},
		{"odd of another client", func(_ *api.Image, r *api.Record) { r.Clients[0].Odd.Stamp.Client = 2 }},
		{"waits of another client", func(_ *api.Image, r *api.Record) { r.Clients[0].Waits.Stamp.Client = 2 }},
		{"waits of a client that there is not", func(_ *api.Image, r *api.Record) { r.Clients[1].Waits.Stamp.Client = 3 }},
		{"clients turned round", func(_ *api.Image, r *api.Record) { slices.Reverse(r.Clients) }},
	})
}

// Sv5: votes that may not be, or do not stand as Image tells them.
func TestOfVotes(t *testing.T) {
	for _, which := range []func(r *api.Record) *[]api.Vote{
		func(r *api.Record) *[]api.Vote { return &r.Echoes },
		func(r *api.Record) *[]api.Vote { return &r.Readies },
	} {
		digest := strings.Repeat("v", 32)
		vote := func(server, seq, client int) api.Vote {
			return api.Vote{Server: server, Stamp: of(seq, client), Digest: digest}
		}
		with := func(l ...api.Vote) change {
			return change{fmt.Sprint(l), func(_ *api.Image, r *api.Record) { *which(r) = l }}
		}
		checkChanges(t, true, []change{
			with(), with(vote(1, 1, 1)), with(vote(4, maxSeq, 4)), with(vote(2, 3, 1)),
			with(vote(1, 2, 1), vote(1, 1, 1)), with(vote(1, 2, 1), vote(1, 9, 1), vote(1, 2, 2), vote(1, 1, 2), vote(2, 2, 1)),
		})
		short, long := vote(1, 1, 1), vote(1, 1, 1)
		short.Digest, long.Digest = digest[1:], digest+"v"
		checkChanges(t, false, []change{
			with(vote(0, 1, 1)), with(vote(5, 1, 1)), with(vote(-1, 1, 1)), with(vote(1, 0, 1)), with(vote(1, -1, 1)), with(vote(1, maxSeq+1, 1)),
			with(vote(1, 1, 0)), with(vote(1, 1, 5)), with(vote(1, 0, 0)), with(short), with(long), with(api.Vote{}),
			with(vote(1, 1, 1), vote(1, 2, 1)), with(vote(1, 1, 2), vote(1, 1, 1)), with(vote(2, 1, 1), vote(1, 1, 1)), with(vote(2, 2, 1), vote(1, 1, 4)),
			with(vote(1, 1, 1), vote(1, 1, 1)), with(vote(1, 1, 1), vote(1, 3, 1)), with(vote(1, 3, 1), vote(1, 1, 1)), with(vote(1, 2, 1), vote(1, 4, 1)),
			with(vote(1, 2, 1), vote(1, 1, 1), vote(1, 3, 1)), with(vote(1, 1, 1), vote(1, 1, 2), vote(1, 3, 1)),
			with(vote(1, 1, 1), vote(5, 1, 1)), with(vote(1, 1, 1), api.Vote{}),
		})
	}
}

// Sv5: without a group there is no server of a state either; and with another one shares do not hold.
func TestOfGroup(t *testing.T) {
	g := least(t)
	x := rich(deals(t, g, 1))
	other, _ := group.New(group.Other())
	for _, none := range []*group.Group{nil, {}, other} {
		if s, e := server.Of(none, x); s != nil || e != api.ErrArg {
			t.Errorf("Of: %v, %d", s, e)
		}
	}
	if s, e := server.Of(g, api.Image{}); s != nil || e != api.ErrArg {
		t.Errorf("Of the zero state: %v, %d", s, e)
	}
}

// Sv4, Sv5: at a state that no server comes to by itself, what is taken may be held at once, and lets more be taken.
func TestChain(t *testing.T) {
	b := newBench(t, 1, 2, 3)
	x := b.deals[0]
	vote := func(server, seq, client int) api.Vote {
		return api.Vote{Server: server, Stamp: of(seq, client), Digest: x.digest}
	}
	state := api.Image{T: 1, Number: 2, Clients: 3, Used: []int{0, 0, 0, 0, 1, 0, 0}, Records: []api.Record{{Key: "k",
		Readies: []api.Vote{vote(1, 2, 2), vote(1, 3, 3), vote(1, 1, 4), vote(3, 2, 2), vote(3, 3, 3), vote(4, 2, 2), vote(4, 3, 3), vote(4, 1, 4)},
		Clients: []api.Told{
			{Waits: given(of(4, 1), x, 2, 11), Op: 9},
			{Waits: given(of(2, 2), x, 2, 12)},
			{Waits: given(of(3, 3), x, 2, 13)},
		}}}}
	s, e := server.Of(b.g, state)
	if e != api.OK {
		t.Fatal(e)
	}
	b.s = s
	b.step(3, ready("k", of(1, 4), x),
		"* ready 0 k 1.4 x", "5 state 9 k 1.4 x",
		"* echo 0 k 2.2 x", "* ready 0 k 2.2 x", "5 state 9 k 2.2 x shares", "6 ack 12 k 2.2",
		"* echo 0 k 3.3 x", "* ready 0 k 3.3 x", "5 state 9 k 3.3 x shares", "7 ack 13 k 3.3",
		"* echo 0 k 4.1 x")
	b.held("k", of(3, 3), x.digest, true)
	for _, c := range b.s.Image().Records[0].Clients {
		if !sameGiven(c.Waits, api.Given{}) {
			t.Errorf("waits: %v", c.Waits)
		}
	}
}

// R1: a server that neither New nor Of gave tells nothing.
func TestNotMade(t *testing.T) {
	b := newBench(t, 1, 2, 2)
	for _, s := range []*server.Server{nil, {}, new(server.Server)} {
		for range 2 {
			for _, from := range someInts {
				for client := 1; client <= 4; client++ {
					for _, m := range kindsOf(b, "k", client) {
						if outs := s.Step(from, m); len(outs) != 0 {
							t.Errorf("%v of %d: %v", m, from, outs)
						}
					}
				}
			}
			if !isNothing(s) {
				t.Error("there is something")
			}
		}
	}
}

// ruin writes over all memory of a matrix and shares, also behind their ends.
func ruin(m api.Matrix, ys []api.Nat) {
	for _, row := range m[:cap(m)] {
		clear(row[:cap(row)])
	}
	clear(m[:cap(m)])
	clear(ys[:cap(ys)])
}

func ruinGiven(x *api.Given) { ruin(x.Matrix, x.Ys) }

// ruinImage writes over all memory of a state.
func ruinImage(x api.Image) {
	for _, r := range x.Records {
		ruinGiven(&r.Held)
		for k := range r.Clients {
			c := &r.Clients[k]
			ruinGiven(&c.Even)
			ruinGiven(&c.Odd)
			ruinGiven(&c.Waits)
		}
		clear(r.Echoes[:cap(r.Echoes)])
		clear(r.Readies[:cap(r.Readies)])
		clear(r.Clients[:cap(r.Clients)])
	}
	clear(x.Records[:cap(x.Records)])
	clear(x.Used[:cap(x.Used)])
}

// R3: what is handed in is neither kept nor changed; what is told is new memory, and no two lists of it share any.
func TestMemory(t *testing.T) {
	g := least(t)
	b := newBench(t, 1, 2, 3)
	s, o := b.s, newModel(g, 1, 2, 3)
	step := func(from int, m api.Msg) {
		t.Helper()
		// With room behind, of which nothing may be read.
		in := copyOf(m)
		in.Matrix, in.Ys = append(in.Matrix, nil, nil)[:len(m.Matrix)], append(in.Ys, api.Nat{9}, api.Nat{9})[:len(m.Ys)]
		was := copyOf(in)
		outs, want := s.Step(from, in), o.step(from, copyOf(m))
		if !sameOut(api.Out{M: in}, api.Out{M: was}) {
			t.Errorf("%v was changed", was)
		}
		ruin(in.Matrix, in.Ys)
		for k := range outs {
			if !sameOuts(outs[k:], want[k:]) {
				t.Fatalf("goes out: %v, not %v", outs[k:], want[k:])
			}
			ruin(outs[k].M.Matrix, outs[k].M.Ys)
		}
		if len(outs) != len(want) {
			t.Fatalf("%d go out, not %d", len(outs), len(want))
		}
		clear(outs[:cap(outs)])
		x := s.Image()
		if !sameImage(x, o.image()) {
			t.Fatalf("the state is %v, not %v", x, o.image())
		}
		// Each list is written over as soon as it was held against the right one.
		for k, r := range x.Records {
			want := o.image().Records[k]
			if !sameGiven(r.Held, want.Held) {
				t.Fatal("held is shared")
			}
			ruinGiven(&r.Held)
			for j := range r.Clients {
				if !sameTold(r.Clients[j], want.Clients[j]) {
					t.Fatal("a proposal is shared")
				}
				ruinGiven(&r.Clients[j].Even)
				ruinGiven(&r.Clients[j].Odd)
				ruinGiven(&r.Clients[j].Waits)
			}
		}
		ruinImage(x)
		keys := s.Keys()
		clear(keys[:cap(keys)])
		ticked, wantTicked := s.Tick(), o.tick()
		for k := range ticked {
			if !sameOuts(ticked[k:], wantTicked[k:]) {
				t.Fatalf("ticks: %v, not %v", ticked[k:], wantTicked[k:])
			}
			ruin(ticked[k].M.Matrix, ticked[k].M.Ys)
		}
	}
	z, y := b.deals[2], b.deals[1]
	for _, client := range []int{5, 6, 7} {
		step(client, listen(1, "k"))
	}
	step(5, propose(2, "k", of(1, 1), z, 2))
	step(6, propose(3, "k", of(2, 2), z, 2))
	for from := 1; from <= 4; from++ {
		step(from, ready("k", of(1, 1), z))
	}
	for from := 1; from <= 4; from++ {
		step(from, ready("k", of(4, 3), y))
	}
	step(7, mend(5, "k", of(4, 3), y, 2))
	// Of keeps nothing of the state either.
	x := o.image()
	in := copyImage(x)
	again, e := server.Of(g, in)
	if e != api.OK || !sameImage(in, x) {
		t.Fatal(e, "changed")
	}
	ruinImage(in)
	if !sameImage(again.Image(), x) {
		t.Error("Of keeps what it is handed")
	}
	s = again
	step(5, listen(2, "k"))
	step(6, propose(9, "k", of(5, 2), z, 2))
}

// copyImage is a state in memory of its own.
func copyImage(x api.Image) api.Image {
	copied := func(g api.Given) api.Given {
		g.Matrix, g.Ys = copyMatrix(g.Matrix), slices.Clone(g.Ys)
		return g
	}
	x.Used, x.Records = slices.Clone(x.Used), slices.Clone(x.Records)
	for k := range x.Records {
		r := &x.Records[k]
		r.Held = copied(r.Held)
		r.Echoes, r.Readies, r.Clients = slices.Clone(r.Echoes), slices.Clone(r.Readies), slices.Clone(r.Clients)
		for j := range r.Clients {
			c := &r.Clients[j]
			c.Even, c.Odd, c.Waits = copied(c.Even), copied(c.Odd), copied(c.Waits)
		}
	}
	return x
}

// R3: keys and digests that stay are copied: what is handed in may be a piece of much more.
func TestTextsCopied(t *testing.T) {
	b := newBench(t, 1, 2, 2)
	long := strings.Repeat("k", 100) + strings.Repeat("d", 100)
	isPiece := func(text string) bool {
		from, at := uintptr(unsafe.Pointer(unsafe.StringData(long))), uintptr(unsafe.Pointer(unsafe.StringData(text)))
		return at >= from && at < from+uintptr(len(long))
	}
	check := func(s *server.Server) {
		t.Helper()
		x := s.Image()
		for _, r := range x.Records {
			if isPiece(r.Key) || isPiece(r.Held.Digest) {
				t.Error("a key, or what is held, is a piece")
			}
			for _, v := range append(r.Echoes, r.Readies...) {
				if isPiece(v.Digest) {
					t.Error("a vote is a piece")
				}
			}
		}
	}
	for from := 1; from <= 4; from++ {
		b.s.Step(from, api.Msg{Kind: api.MsgReady, Key: long[:4], Stamp: of(1, 1), Digest: long[100:132]})
	}
	b.held(long[:4], of(1, 1), long[100:132], false)
	if _, digest, _ := b.s.Held(long[:4]); isPiece(digest) {
		t.Error("what is held is a piece")
	}
	for _, o := range b.s.Tick() {
		if isPiece(o.M.Key) || isPiece(o.M.Digest) {
			t.Error("a message has a piece")
		}
	}
	check(b.s)
	x := b.s.Image()
	x.Records[0].Key, x.Records[0].Held.Digest = long[:4], long[100:132]
	s, e := server.Of(b.g, x)
	if e != api.OK {
		t.Fatal(e)
	}
	check(s)
}

// newDrawer gives numbers of a seed that stays the same.
func newDrawer(seed uint64) *rand.Rand { return rand.New(rand.NewPCG(23, seed)) }

// drawn is a message, and whom it is from: mostly such that may be, about what the server holds.
func drawn(r *rand.Rand, o *model, d []deal) (int, api.Msg) {
	key := []string{"k", "k", "k", "q", "\xff", "a", "b"}[r.IntN(7)]
	held := 0
	if e := o.keys[key]; e != nil {
		held = e.held.Stamp.Seq
	}
	s := of(max(1, held-1+r.IntN(5)), 1+r.IntN(o.m))
	if r.IntN(10) == 0 {
		s.Client = 1 + r.IntN(4)
	}
	// Mostly all vouch for the same with one stamp.
	which := d[(s.Seq+s.Client)%len(d)]
	if r.IntN(6) == 0 {
		which = d[r.IntN(len(d))]
	}
	client, other := o.n+1+r.IntN(o.m), 1+r.IntN(o.n)
	op := 1 + r.IntN(6)
	switch r.IntN(40) {
	case 0, 1, 2:
		return client, listen(op, key)
	case 3, 4:
		return client, leave(op, key)
	case 5, 6, 7:
		if e := o.keys[key]; e != nil && e.held.Stamp.Seq > 0 && r.IntN(2) == 0 {
			s = e.held.Stamp
			which = d[max(0, slices.IndexFunc(d, func(x deal) bool { return x.digest == e.held.Digest }))]
		}
		return client, mend(op, key, s, which, o.number)
	case 8, 9, 10, 11, 12, 13, 14, 15:
		return o.n + s.Client, propose(op, key, s, which, o.number)
	case 16:
		return r.IntN(o.n + o.m + 3), propose(op, key, s, which, 1+r.IntN(o.n))
	case 17:
		return r.IntN(o.n + o.m + 3), echo(key, s, which)
	case 18:
		return r.IntN(o.n+o.m+3) - 1, api.Msg{Kind: r.IntN(11) - 1, Op: r.IntN(4), Key: key, Stamp: s, Digest: which.digest}
	case 19, 20, 21, 22, 23, 24, 25, 26, 27, 28:
		return other, echo(key, s, which)
	}
	return other, ready(key, s, which)
}

// pair is a server, and its model.
type pair struct {
	t testing.TB
	s *server.Server
	o *model
	// What it echoed and was ready for, of each key and stamp, ever.
	vouched map[string]string
}

func (p *pair) step(from int, m api.Msg) {
	p.t.Helper()
	was, _, _ := p.s.Held(m.Key)
	got, want := p.s.Step(from, m), p.o.step(from, m)
	if !sameOuts(got, want) {
		p.t.Fatalf("%v of %d at\n%v:\n%v goes out, not\n%v", m, from, p.o.image(), got, want)
	}
	is, _, _ := p.s.Held(m.Key)
	if isLater(was, is) {
		p.t.Fatalf("holds %d behind %d", is, was)
	}
	p.keep(got)
}

// keep looks whether what goes out is what may, and is as what went out ahead.
func (p *pair) keep(outs []api.Out) {
	p.t.Helper()
	for _, x := range outs {
		m := x.M
		if wire.Check(m) != api.OK || x.To == p.o.number || x.To < 1 || x.To > p.o.n+p.o.m {
			p.t.Fatalf("%v may not go out", x)
		}
		if m.Kind != api.MsgEcho && m.Kind != api.MsgReady {
			continue
		}
		name := fmt.Sprintf("%d %s %d", m.Kind, m.Key, m.Stamp)
		if digest, ok := p.vouched[name]; ok && digest != m.Digest {
			p.t.Fatalf("vouches for two: %s", name)
		}
		p.vouched[name] = m.Digest
		if held, _, _ := p.s.Held(m.Key); m.Kind == api.MsgEcho && m.Stamp.Seq > held.Seq+1 {
			p.t.Fatalf("echoes %d at %d", m.Stamp, held)
		}
	}
}

// state holds all that is to be asked against the model.
func (p *pair) state() {
	p.t.Helper()
	if got, want := p.s.Image(), p.o.image(); !sameImage(got, want) {
		p.t.Fatalf("the state is\n%v, not\n%v", got, want)
	}
	keys := p.o.sorted()
	if !slices.Equal(p.s.Keys(), keys) {
		p.t.Fatalf("Keys(): %q, not %q", p.s.Keys(), keys)
	}
	for _, key := range append(keys, "none") {
		var want api.Given
		if e := p.o.keys[key]; e != nil {
			want = e.held
		}
		if s, digest, has := p.s.Held(key); s != want.Stamp || digest != want.Digest || has != (len(want.Ys) > 0) {
			p.t.Fatalf("holds %d, %x, %v of %q, not %v", s, digest, has, key, want)
		}
	}
	got, want := p.s.Tick(), p.o.tick()
	if !sameOuts(got, want) {
		p.t.Fatalf("ticks:\n%v, not\n%v", got, want)
	}
	p.keep(got)
}

// again puts the server of the state in the place of the server.
func (p *pair) again(g *group.Group) {
	p.t.Helper()
	s, e := server.Of(g, p.s.Image())
	if e != api.OK {
		p.t.Fatalf("Of: %d, of\n%v", e, p.s.Image())
	}
	p.s = s
}

// Sv2, Sv3, Sv4, Sv5: many drawn messages, against the chapter's words; at times the server of the state goes on.
func TestDrawn(t *testing.T) {
	g := least(t)
	held := 0
	for round := range 240 {
		r := newDrawer(uint64(round))
		liars := 1 + round%4/3
		number, clients := 1+r.IntN(3*liars+1), 1+r.IntN(4)
		d := deals(t, g, liars)
		p := &pair{t, newServer(t, g, liars, number, clients), newModel(g, liars, number, clients), map[string]string{}}
		for k := range 200 {
			p.step(drawn(r, p.o, d))
			if k%20 == 19 {
				p.state()
			}
			if r.IntN(50) == 0 {
				p.again(g)
			}
		}
		for _, key := range p.s.Keys() {
			s, _, _ := p.s.Held(key)
			held += s.Seq
		}
	}
	if held < 240 {
		t.Errorf("but few were held: %d", held)
	}
}

// bent is a state with something changed so that it still may be, though no server might come to it by itself.
func bent(r *rand.Rand, x api.Image, d []deal) api.Image {
	for k := range x.Records {
		rec := &x.Records[k]
		drop := func(l []api.Vote) []api.Vote {
			return slices.DeleteFunc(l, func(api.Vote) bool { return r.IntN(4) == 0 })
		}
		bend := func(g *api.Given, client, odd int) {
			s := g.Stamp
			if s.Seq == 0 || r.IntN(3) == 0 {
				s = of(max(1, rec.Held.Stamp.Seq+r.IntN(4)), client)
			}
			if odd >= 0 && s.Seq%2 != odd {
				s.Seq++
			}
			switch r.IntN(5) {
			case 0:
				*g = api.Given{}
			case 1:
				*g = given(s, d[(s.Seq+s.Client)%len(d)], x.Number, r.IntN(4))
			case 2:
				*g = api.Given{Stamp: s, Digest: d[(s.Seq+s.Client)%len(d)].digest, Op: r.IntN(4)}
			}
		}
		rec.Echoes, rec.Readies = drop(rec.Echoes), drop(rec.Readies)
		for j := range rec.Clients {
			c := &rec.Clients[j]
			bend(&c.Even, j+1, 0)
			bend(&c.Odd, j+1, 1)
			bend(&c.Waits, j+1, -1)
			if r.IntN(4) == 0 {
				c.Op, c.Left = r.IntN(5), r.IntN(5)
			}
		}
		if r.IntN(3) == 0 {
			bend(&rec.Held, 1+r.IntN(4), -1)
			rec.Held.Op = 0
		}
	}
	return x
}

// Sv4, Sv5: servers go on from states to which none comes by itself, too.
func TestBent(t *testing.T) {
	g := least(t)
	for round := range 60 {
		r := newDrawer(1000 + uint64(round))
		liars := 1 + round%4/3
		number, clients := 1+r.IntN(3*liars+1), 1+r.IntN(4)
		d := deals(t, g, liars)
		p := &pair{t, newServer(t, g, liars, number, clients), newModel(g, liars, number, clients), nil}
		for range 60 {
			p.vouched = map[string]string{}
			for range 10 {
				from, m := drawn(r, p.o, d)
				got, want := p.s.Step(from, m), p.o.step(from, m)
				if !sameOuts(got, want) {
					t.Fatalf("%v of %d at\n%v:\n%v goes out, not\n%v", m, from, p.o.image(), got, want)
				}
			}
			x := bent(r, p.o.image(), d)
			if s, e := server.Of(g, copyImage(x)); e != api.OK {
				t.Fatalf("Of: %d, of\n%v", e, x)
			} else {
				p.s, p.o = s, modelOf(g, x)
			}
			if !sameImage(p.s.Image(), x) {
				t.Fatalf("the state is\n%v, not\n%v", p.s.Image(), x)
			}
		}
	}
}

// R4: the same calls tell the same, and servers go their own ways.
func TestAlike(t *testing.T) {
	g := least(t)
	d := deals(t, g, 1)
	a, b, o := newServer(t, g, 1, 3, 2), newServer(t, g, 1, 3, 2), newModel(g, 1, 3, 2)
	idle := newServer(t, g, 1, 3, 2)
	r := newDrawer(7)
	for range 500 {
		from, m := drawn(r, o, d)
		o.step(from, m)
		if !sameOuts(a.Step(from, m), b.Step(from, m)) {
			t.Fatalf("%v of %d", m, from)
		}
	}
	if !sameImage(a.Image(), b.Image()) || len(a.Keys()) == 0 {
		t.Error("they are not alike")
	}
	if len(idle.Keys()) != 0 || len(idle.Tick()) != 0 {
		t.Error("one shows in another one")
	}
	// The server of a state goes its own way, too.
	c, _ := server.Of(g, a.Image())
	was := a.Image()
	for range 300 {
		from, m := drawn(r, o, d)
		o.step(from, m)
		if !sameOuts(c.Step(from, m), b.Step(from, m)) {
			t.Fatalf("%v of %d", m, from)
		}
	}
	if !sameImage(a.Image(), was) || sameImage(c.Image(), was) || !sameImage(c.Image(), b.Image()) {
		t.Error("one shows in another one")
	}
}

// message is one that is under way between servers.
type message struct {
	from, to int
	m        api.Msg
}

// system is servers, some of which lie; what goes to clients is passed over.
type system struct {
	t       *testing.T
	r       *rand.Rand
	n       int
	servers map[int]*server.Server
	flight  []message
	held    map[string]string // the digest that was held with a key and a stamp
	seqs    map[string]int
}

func (y *system) put(from int, outs []api.Out) {
	for _, o := range outs {
		if o.To <= y.n && y.servers[o.To] != nil {
			y.flight = append(y.flight, message{from, o.To, o.M})
		}
	}
}

// deliver takes any one of what is under way; all looks whether two servers hold unlike things with one stamp.
func (y *system) deliver() {
	k := y.r.IntN(len(y.flight))
	x := y.flight[k]
	y.flight = slices.Delete(y.flight, k, k+1)
	y.give(x)
}

func (y *system) give(x message) {
	s := y.servers[x.to]
	y.put(x.to, s.Step(x.from, x.m))
	p, digest, _ := s.Held(x.m.Key)
	if p.Seq == 0 {
		return
	}
	name := fmt.Sprint(x.m.Key, p)
	if was, ok := y.held[name]; ok && was != digest {
		y.t.Fatalf("%s is held with two digests", name)
	}
	y.held[name] = digest
	if p.Seq > y.seqs[x.m.Key]+1 {
		y.t.Fatalf("%q goes from %d to %d", x.m.Key, y.seqs[x.m.Key], p.Seq)
	}
	y.seqs[x.m.Key] = max(y.seqs[x.m.Key], p.Seq)
}

// write lets a client propose the next number to all servers.
func (y *system) write(client int, d []deal) {
	key := []string{"k", "q"}[y.r.IntN(2)]
	s, which := of(y.seqs[key]+1, client), d[y.r.IntN(len(d))]
	for number := 1; number <= y.n; number++ {
		if y.servers[number] != nil {
			y.flight = append(y.flight, message{y.n + client, number, propose(1, key, s, which, number)})
		}
	}
}

// lie gives a server a message of a server that lies, or of a client, that may lie, too.
func (y *system) lie(bad []int, clients int, d []deal) {
	to := 1 + y.r.IntN(y.n)
	if y.servers[to] == nil {
		return
	}
	key := []string{"k", "q"}[y.r.IntN(2)]
	s, which := of(max(1, y.seqs[key]+y.r.IntN(4)-1), 1+y.r.IntN(clients)), d[y.r.IntN(len(d))]
	m := propose(1, key, s, which, to)
	from := y.n + s.Client
	switch y.r.IntN(3) {
	case 0:
		m, from = echo(key, s, which), bad[y.r.IntN(len(bad))]
	case 1:
		m, from = ready(key, s, which), bad[y.r.IntN(len(bad))]
	}
	y.give(message{from, to, m})
}

// Sv4, P4: whoever lies, no two servers hold unlike things with one stamp, no number is skipped; and when all tick, and all is delivered, they hold the same.
func TestTogether(t *testing.T) {
	g := least(t)
	far := 0
	for round := range 60 {
		r := newDrawer(5000 + uint64(round))
		liars := 1 + round%3/2
		y := &system{t, r, 3*liars + 1, map[int]*server.Server{}, nil, map[string]string{}, map[string]int{}}
		bad := r.Perm(y.n)[:liars]
		for k := range bad {
			bad[k]++
		}
		clients := 1 + r.IntN(4)
		for number := 1; number <= y.n; number++ {
			if !slices.Contains(bad, number) {
				y.servers[number] = newServer(t, g, liars, number, clients)
			}
		}
		d := deals(t, g, liars)
		for range 2000 {
			switch {
			case len(y.flight) == 0 || r.IntN(60) == 0:
				y.write(1+r.IntN(clients), d)
			case r.IntN(4) == 0:
				y.lie(bad, clients, d)
			case r.IntN(20) == 0:
				y.flight = slices.Delete(y.flight, 0, 1)
			default:
				y.deliver()
			}
		}
		for number := 1; number <= y.n; number++ {
			y.put(number, y.servers[number].Tick())
		}
		for len(y.flight) > 0 {
			y.deliver()
		}
		for _, key := range []string{"k", "q"} {
			want, digest, _ := y.servers[slices.Min(slices.Collect(maps.Keys(y.servers)))].Held(key)
			for number, s := range y.servers {
				if p, other, _ := s.Held(key); p != want || other != digest {
					t.Errorf("round %d: %d holds %d of %q, not %d", round, number, p, key, want)
				}
			}
			far += want.Seq
		}
	}
	if far < 300 {
		t.Errorf("they came but %d far", far)
	}
}

// Sv2, Sv5: by whatever bytes: a server, then messages of it.
func FuzzServer(f *testing.F) {
	f.Add([]byte("\x01\x02\x02\x05\x01\x03\x01\x06\x01\x02\x11"))
	f.Add([]byte("\x00\x00\x00\x04\x11\x12\x13\x24\x25\x26\x37"))
	g := least(f)
	all := [][]deal{deals(f, g, 1), deals(f, g, 2)}
	f.Fuzz(func(t *testing.T, data []byte) {
		next := func(below int) int {
			if len(data) == 0 {
				return 0
			}
			b := int(data[0])
			data = data[1:]
			return b % below
		}
		liars := 1 + next(2)
		d, number, clients := all[liars-1], 1+next(3*liars+1), 1+next(4)
		p := &pair{t, newServer(t, g, liars, number, clients), newModel(g, liars, number, clients), map[string]string{}}
		for len(data) > 0 {
			kind, from, key := next(10), next(3*liars+clients+3), []string{"", "k", "q", "a", "b", "c", "d"}[next(7)]
			m := api.Msg{Kind: kind, Op: next(5), Key: key, Stamp: of(next(7), next(6))}
			which := d[next(len(d))]
			switch kind {
			case api.MsgListen, api.MsgLeave:
				m.Stamp = api.Stamp{}
			case api.MsgEcho, api.MsgReady:
				m.Digest, m.Op = which.digest, 0
			case api.MsgPropose, api.MsgMend:
				m.Matrix, m.Ys = which.m, which.parts[(number-1+next(16)/15)%len(which.parts)].Ys
			}
			p.step(from, m)
			if next(8) == 7 {
				p.again(g)
			}
		}
		p.state()
		p.again(g)
		p.state()
	})
}
