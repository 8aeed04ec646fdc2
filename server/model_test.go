package server_test

import (
	"maps"
	"slices"

	"sacristy/api"
	"sacristy/group"
	"sacristy/matrix"
	"sacristy/server"
	"sacristy/wire"
)

type place struct{ server, client, odd int }

// known is what a server has of a client, of a key.
type known struct {
	proposals map[int]api.Given // by the parity of their numbers
	waits     api.Given
	op, left  int
}

// entry is what a server has of a key.
type entry struct {
	held            api.Given
	echoes, readies map[place]api.Vote
	of              map[int]*known
}

// model is a server by the chapter's words, without the layers that tell votes and keys.
type model struct {
	g               *group.Group
	t, n, number, m int
	used            map[int]int
	keys            map[string]*entry
	outs            []api.Out
}

func newModel(g *group.Group, t, number, clients int) *model {
	return &model{g: g, t: t, n: 3*t + 1, number: number, m: clients, used: map[int]int{}, keys: map[string]*entry{}}
}

func newEntry(clients int) *entry {
	e := &entry{echoes: map[place]api.Vote{}, readies: map[place]api.Vote{}, of: map[int]*known{}}
	for c := 1; c <= clients; c++ {
		e.of[c] = &known{proposals: map[int]api.Given{}}
	}
	return e
}

func isLater(a, b api.Stamp) bool {
	return a.Seq > b.Seq || a.Seq == b.Seq && a.Client > b.Client
}

// isFrom tells whether an end sends such a message.
func (o *model) isFrom(from int, m api.Msg) bool {
	isClient := o.n+1 <= from && from <= o.n+o.m
	switch m.Kind {
	case 1, 2, 8:
		return isClient
	case 4:
		return isClient && from == o.n+m.Stamp.Client
	case 5, 6:
		return 1 <= from && from <= o.n && from != o.number
	}
	return false
}

func (o *model) open(key string, from int) bool {
	if o.keys[key] != nil {
		return true
	}
	quota := 4
	if from <= o.n {
		quota = 4 * o.m * o.n
	}
	if o.used[from] == quota {
		return false
	}
	o.used[from]++
	o.keys[key] = newEntry(o.m)
	return true
}

func (o *model) step(from int, m api.Msg) []api.Out {
	o.outs = nil
	if wire.Check(m) != api.OK || !o.isFrom(from, m) {
		return nil
	}
	brings := m.Kind == 4 || m.Kind == 8
	if brings && (!matrix.May(o.g, o.t, m.Matrix) || !matrix.Holds(o.g, m.Matrix, api.Part{I: o.number, Ys: m.Ys})) {
		return nil
	}
	if !o.open(m.Key, from) {
		return nil
	}
	e := o.keys[m.Key]
	switch m.Kind {
	case 1:
		if k := e.of[from-o.n]; m.Op > k.left && m.Op >= k.op {
			k.op = m.Op
			o.tell(m.Key, from-o.n)
		}
	case 2:
		k := e.of[from-o.n]
		if m.Op > k.left {
			k.left = m.Op
		}
		if k.op <= m.Op {
			k.op = 0
		}
	case 8:
		o.mend(m)
	case 4:
		o.propose(m)
	case 5:
		if put(e.echoes, from, m.Stamp, m.Digest) {
			o.look(m.Key, m.Stamp, m.Digest)
		}
	case 6:
		if put(e.readies, from, m.Stamp, m.Digest) {
			o.look(m.Key, m.Stamp, m.Digest)
		}
	}
	return o.outs
}

func put(v map[place]api.Vote, from int, s api.Stamp, digest string) bool {
	p := place{from, s.Client, s.Seq % 2}
	if v[p].Stamp.Seq >= s.Seq {
		return false
	}
	v[p] = api.Vote{Server: from, Stamp: s, Digest: digest}
	return true
}

func count(v map[place]api.Vote, s api.Stamp, digest string) int {
	sum := 0
	for _, x := range v {
		if x.Stamp == s && x.Digest == digest {
			sum++
		}
	}
	return sum
}

func (o *model) tell(key string, client int) {
	e := o.keys[key]
	if op := e.of[client].op; op != 0 {
		h := e.held
		o.outs = append(o.outs, api.Out{To: o.n + client, M: api.Msg{Kind: 3, Op: op, Key: key, Stamp: h.Stamp, Digest: h.Digest, Matrix: h.Matrix, Ys: h.Ys}})
	}
}

func (o *model) tellAll(key string) {
	for c := 1; c <= o.m; c++ {
		o.tell(key, c)
	}
}

func (o *model) tellServers(m api.Msg) {
	for to := 1; to <= o.n; to++ {
		if to != o.number {
			o.outs = append(o.outs, api.Out{To: to, M: m})
		}
	}
}

func (o *model) ack(key string, client, op int, s api.Stamp) {
	o.outs = append(o.outs, api.Out{To: o.n + client, M: api.Msg{Kind: 7, Op: op, Key: key, Stamp: s}})
}

func (o *model) mend(m api.Msg) {
	e := o.keys[m.Key]
	if m.Stamp == e.held.Stamp && matrix.Digest(m.Matrix) == e.held.Digest && len(e.held.Ys) == 0 {
		e.held.Matrix, e.held.Ys = m.Matrix, m.Ys
		o.tellAll(m.Key)
	}
}

func (o *model) propose(m api.Msg) {
	e, c := o.keys[m.Key], m.Stamp.Client
	p := api.Given{Stamp: m.Stamp, Digest: matrix.Digest(m.Matrix), Matrix: m.Matrix, Ys: m.Ys, Op: m.Op}
	if !isLater(m.Stamp, e.held.Stamp) {
		o.mend(m)
		o.ack(m.Key, c, m.Op, m.Stamp)
	} else if m.Stamp.Seq <= e.held.Stamp.Seq+1 {
		o.take(m.Key, p)
	} else if m.Stamp.Seq > e.of[c].waits.Stamp.Seq {
		e.of[c].waits = p
	}
}

func (o *model) take(key string, p api.Given) {
	e := o.keys[key]
	in := e.of[p.Stamp.Client].proposals
	if p.Stamp.Seq > in[p.Stamp.Seq%2].Stamp.Seq {
		in[p.Stamp.Seq%2] = p
	}
	if put(e.echoes, o.number, p.Stamp, p.Digest) {
		o.tellServers(api.Msg{Kind: 5, Key: key, Stamp: p.Stamp, Digest: p.Digest})
		o.look(key, p.Stamp, p.Digest)
	}
}

func (o *model) look(key string, s api.Stamp, digest string) {
	e := o.keys[key]
	if count(e.echoes, s, digest) > 2*o.t || count(e.readies, s, digest) > o.t {
		if put(e.readies, o.number, s, digest) {
			o.tellServers(api.Msg{Kind: 6, Key: key, Stamp: s, Digest: digest})
		}
	}
	if count(e.readies, s, digest) <= 2*o.t || !isLater(s, e.held.Stamp) {
		return
	}
	e.held = api.Given{Stamp: s, Digest: digest}
	if k := e.of[s.Client]; k != nil {
		for _, p := range []api.Given{k.waits, k.proposals[1], k.proposals[0]} {
			if p.Stamp == s && p.Digest == digest {
				e.held.Matrix, e.held.Ys = p.Matrix, p.Ys
			}
		}
	}
	o.tellAll(key)
	o.answer(key)
	for c := 1; c <= o.m; c++ {
		k := e.of[c]
		if p := k.waits; p.Op != 0 && p.Stamp.Seq <= e.held.Stamp.Seq+1 {
			k.waits = api.Given{}
			o.take(key, p)
		}
	}
}

func (o *model) answer(key string) {
	e := o.keys[key]
	for c := 1; c <= o.m; c++ {
		k := e.of[c]
		answered := func(p api.Given) api.Given {
			if p.Op != 0 && !isLater(p.Stamp, e.held.Stamp) {
				o.ack(key, c, p.Op, p.Stamp)
				p.Op = 0
			}
			return p
		}
		k.proposals[0] = answered(k.proposals[0])
		k.proposals[1] = answered(k.proposals[1])
		k.waits = answered(k.waits)
	}
}

func (o *model) sorted() []string { return slices.Sorted(maps.Keys(o.keys)) }

func (o *model) tick() []api.Out {
	o.outs = nil
	for _, key := range o.sorted() {
		e := o.keys[key]
		for c := 1; c <= o.m; c++ {
			for odd := range 2 {
				if x, ok := e.echoes[place{o.number, c, odd}]; ok {
					o.tellServers(api.Msg{Kind: 5, Key: key, Stamp: x.Stamp, Digest: x.Digest})
				}
				if x, ok := e.readies[place{o.number, c, odd}]; ok {
					o.tellServers(api.Msg{Kind: 6, Key: key, Stamp: x.Stamp, Digest: x.Digest})
				}
			}
		}
		o.tellAll(key)
	}
	return o.outs
}

func listed(v map[place]api.Vote) []api.Vote {
	var list []api.Vote
	for server := 1; server <= 7; server++ {
		for client := 1; client <= 4; client++ {
			for odd := range 2 {
				if x, ok := v[place{server, client, odd}]; ok {
					list = append(list, x)
				}
			}
		}
	}
	return list
}

func (o *model) image() api.Image {
	x := api.Image{T: o.t, Number: o.number, Clients: o.m}
	for end := 1; end <= o.n+o.m; end++ {
		x.Used = append(x.Used, o.used[end])
	}
	for _, key := range o.sorted() {
		e := o.keys[key]
		r := api.Record{Key: key, Held: e.held, Echoes: listed(e.echoes), Readies: listed(e.readies)}
		for c := 1; c <= o.m; c++ {
			k := e.of[c]
			r.Clients = append(r.Clients, api.Told{Even: k.proposals[0], Odd: k.proposals[1], Waits: k.waits, Op: k.op, Left: k.left})
		}
		x.Records = append(x.Records, r)
	}
	return x
}

// modelOf is the model with a state that may be.
func modelOf(g *group.Group, x api.Image) *model {
	o := newModel(g, x.T, x.Number, x.Clients)
	for k, count := range x.Used {
		o.used[k+1] = count
	}
	for _, r := range x.Records {
		e := newEntry(o.m)
		e.held = r.Held
		for _, v := range r.Echoes {
			put(e.echoes, v.Server, v.Stamp, v.Digest)
		}
		for _, v := range r.Readies {
			put(e.readies, v.Server, v.Stamp, v.Digest)
		}
		for k, c := range r.Clients {
			e.of[k+1] = &known{proposals: map[int]api.Given{0: c.Even, 1: c.Odd}, waits: c.Waits, op: c.Op, left: c.Left}
		}
		o.keys[r.Key] = e
	}
	return o
}

func sameMatrix(a, b api.Matrix) bool {
	return slices.EqualFunc(a, b, func(x, y []api.Nat) bool { return slices.Equal(x, y) })
}

func sameGiven(a, b api.Given) bool {
	return a.Stamp == b.Stamp && a.Digest == b.Digest && a.Op == b.Op && sameMatrix(a.Matrix, b.Matrix) && slices.Equal(a.Ys, b.Ys)
}

func sameTold(a, b api.Told) bool {
	return sameGiven(a.Even, b.Even) && sameGiven(a.Odd, b.Odd) && sameGiven(a.Waits, b.Waits) && a.Op == b.Op && a.Left == b.Left
}

func sameRecord(a, b api.Record) bool {
	return a.Key == b.Key && sameGiven(a.Held, b.Held) && slices.Equal(a.Echoes, b.Echoes) && slices.Equal(a.Readies, b.Readies) && slices.EqualFunc(a.Clients, b.Clients, sameTold)
}

// sameImage holds states against each other: nil and the empty list are the same.
func sameImage(a, b api.Image) bool {
	return a.T == b.T && a.Number == b.Number && a.Clients == b.Clients && slices.Equal(a.Used, b.Used) && slices.EqualFunc(a.Records, b.Records, sameRecord)
}

func sameOut(a, b api.Out) bool {
	x, y := a.M, b.M
	return a.To == b.To && x.Kind == y.Kind && x.Op == y.Op && x.Key == y.Key && x.Stamp == y.Stamp && x.Digest == y.Digest && sameMatrix(x.Matrix, y.Matrix) && slices.Equal(x.Ys, y.Ys)
}

func sameOuts(a, b []api.Out) bool { return slices.EqualFunc(a, b, sameOut) }

// isNothing tells whether a server is as one that nobody made.
func isNothing(s *server.Server) bool {
	held, digest, has := s.Held("k")
	return held == (api.Stamp{}) && digest == "" && !has && len(s.Keys()) == 0 && sameImage(s.Image(), api.Image{}) && len(s.Tick()) == 0
}
