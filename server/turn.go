package server

import (
	"slices"
	"strings"

	"sacristy/api"
	"sacristy/votes"
)

// turn is a server at one of its records, in one call: what goes out comes behind what went out ahead.
type turn struct {
	*Server
	*record
	outs []api.Out
}

// turnOf is a turn at the record of a key that is known.
func (s *Server) turnOf(key string) *turn {
	return &turn{Server: s, record: s.records[key]}
}

// send lets a message of this key go out to an end.
func (t *turn) send(to int, m api.Msg) {
	m.Key = t.key
	t.outs = append(t.outs, api.Out{To: to, M: m})
}

// tellServers tells all other servers what this one vouches for.
func (t *turn) tellServers(kind int, s api.Stamp, digest string) {
	for to := 1; to <= t.servers(); to++ {
		if to != t.number {
			t.send(to, api.Msg{Kind: kind, Stamp: s, Digest: digest})
		}
	}
}

// tellOwn tells all other servers the vote of this one in a place, if there is one.
func (t *turn) tellOwn(kind int, v *votes.Votes, client, odd int) {
	if s, digest := v.At(t.number, client, odd); s.Seq > 0 {
		t.tellServers(kind, s, digest)
	}
}

// tellClient lets a message go out to a client.
func (t *turn) tellClient(client int, m api.Msg) {
	t.send(t.servers()+client, m)
}

// tellListener tells a client what is held, if it listens.
func (t *turn) tellListener(client int) {
	if op := t.of(client).Op; op > 0 {
		t.tellClient(client, api.Msg{Kind: api.MsgState, Op: op, Stamp: t.Stamp, Digest: t.Digest, Matrix: copyMatrix(t.Matrix), Ys: copyList(t.Ys)})
	}
}

// tellListeners tells all that listen what is held.
func (t *turn) tellListeners() {
	for k := range t.told {
		t.tellListener(k + 1)
	}
}

// acknowledge answers a client that what it proposed, or what is later, is held.
func (t *turn) acknowledge(client int, p api.Given) {
	t.tellClient(client, api.Msg{Kind: api.MsgAck, Op: p.Op, Stamp: p.Stamp})
}

// of is what is known of a client.
func (t *turn) of(client int) *api.Told { return &t.told[client-1] }

// proposals are what a client proposed: of even numbers, of odd ones, and what waits.
func proposals(c *api.Told) []*api.Given { return []*api.Given{&c.Even, &c.Odd, &c.Waits} }

// parity is 0 of an even number, 1 of an odd one.
func parity(s api.Stamp) int { return s.Seq & 1 }

// place is where a proposal comes: of even numbers, or of odd ones.
func place(c *api.Told, s api.Stamp) *api.Given { return proposals(c)[parity(s)] }

// listen lets a client listen for an operation, unless it left that, or listens to a later one.
func (t *turn) listen(client, op int) {
	c := t.of(client)
	if op <= c.Left || op < c.Op {
		return
	}
	c.Op = op
	t.tellListener(client)
}

// leave lets a client listen no more for an operation, and those ahead, even if these come to listen only later.
func (t *turn) leave(client, op int) {
	c := t.of(client)
	c.Left = max(c.Left, op)
	if c.Op <= op {
		c.Op = 0
	}
}

// mend takes the shares of what is held without any.
func (t *turn) mend(p api.Given) {
	if p.Stamp != t.Stamp || p.Digest != t.Digest || hasShares(t.Given) {
		return
	}
	t.Matrix, t.Ys = p.Matrix, p.Ys
	t.tellListeners()
}

// propose answers a proposal that is not later than what is held; it takes one of the next number; one that is ahead of its time waits.
func (t *turn) propose(p api.Given) {
	client := p.Stamp.Client
	waits := &t.of(client).Waits
	switch {
	case !isLater(p.Stamp, t.Stamp):
		t.mend(p)
		t.acknowledge(client, p)
	case t.isNext(p):
		t.take(p)
	case p.Stamp.Seq > waits.Stamp.Seq:
		*waits = p
	}
}

// isNext tells whether a proposal's number skips none behind the one that is held.
func (t *turn) isNext(p api.Given) bool { return p.Stamp.Seq <= t.Stamp.Seq+1 }

// take takes a proposal, and vouches for it, unless it did so for a later one.
func (t *turn) take(p api.Given) {
	if at := place(t.of(p.Stamp.Client), p.Stamp); p.Stamp.Seq > at.Stamp.Seq {
		*at = p
	}
	if t.echoes.Put(t.number, p.Stamp, p.Digest) {
		t.tellServers(api.MsgEcho, p.Stamp, p.Digest)
		t.look(p.Stamp, p.Digest)
	}
}

// vote puts what another server vouches for.
func (t *turn) vote(v *votes.Votes, from int, m api.Msg) {
	if v.Put(from, m.Stamp, m.Digest) {
		t.look(m.Stamp, m.Digest)
	}
}

// look asks whether enough servers vouch for a stamp and a digest, so that this one is ready, or holds them.
func (t *turn) look(s api.Stamp, digest string) {
	vouched := t.echoes.Count(s, digest) >= t.most() || t.readies.Count(s, digest) >= t.some()
	if vouched && t.readies.Put(t.number, s, digest) {
		t.tellServers(api.MsgReady, s, digest)
	}
	if t.readies.Count(s, digest) >= t.most() && isLater(s, t.Stamp) {
		t.hold(s, digest)
	}
}

// hold holds a stamp and a digest, and does what was waiting for it.
func (t *turn) hold(s api.Stamp, digest string) {
	p := t.proposed(s, digest)
	// The digest is copied: it may stay for long, and what is handed in may be a piece of much more.
	t.Given = api.Given{Stamp: s, Digest: strings.Clone(digest), Matrix: p.Matrix, Ys: p.Ys}
	t.tellListeners()
	t.answer()
	t.takeWaiting()
}

// proposed is the proposal with a stamp and a digest; the zero value, if there is none.
func (t *turn) proposed(s api.Stamp, digest string) api.Given {
	// Servers may vouch for stamps of clients that there are not.
	if s.Client > t.clients {
		return api.Given{}
	}
	all := proposals(t.of(s.Client))
	k := slices.IndexFunc(all, func(p *api.Given) bool { return p.Stamp == s && p.Digest == digest })
	if k < 0 {
		return api.Given{}
	}
	return *all[k]
}

// answer answers all proposals that are not later than what is held, each once.
func (t *turn) answer() {
	for k := range t.told {
		for _, p := range proposals(&t.told[k]) {
			if p.Op > 0 && !isLater(p.Stamp, t.Stamp) {
				t.acknowledge(k+1, *p)
				p.Op = 0
			}
		}
	}
}

// takeWaiting takes what waits, if its time has come.
func (t *turn) takeWaiting() {
	for k := range t.told {
		waits := &t.told[k].Waits
		if waits.Op > 0 && t.isNext(*waits) {
			p := *waits
			// It waits no more first: to take it may lead here again.
			*waits = api.Given{}
			t.take(p)
		}
	}
}
