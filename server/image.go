package server

import (
	"slices"
	"strings"

	"sacristy/api"
	"sacristy/group"
	"sacristy/matrix"
	"sacristy/space"
	"sacristy/stamp"
	"sacristy/votes"
)

const digestSize = 32 // bytes

// Image is the state.
func (s *Server) Image() api.Image {
	if !s.isMade() {
		return api.Image{}
	}
	x := api.Image{T: s.faults, Number: s.number, Clients: s.clients}
	for end := 1; end <= s.servers()+s.clients; end++ {
		x.Used = append(x.Used, s.space.Used(end))
	}
	for _, key := range s.Keys() {
		x.Records = append(x.Records, s.records[key].image())
	}
	return x
}

// Of is the server with a state.
func Of(g *group.Group, x api.Image) (*Server, api.Errno) {
	s, e := New(g, x.T, x.Number, x.Clients)
	if e != api.OK {
		return nil, e
	}
	var keys []string
	for _, r := range x.Records {
		keys = append(keys, r.Key)
	}
	if s.space, e = space.Of(s.servers(), s.clients, keys, x.Used); e != api.OK {
		return nil, e
	}
	for _, r := range x.Records {
		if !s.adopts(r) {
			return nil, api.ErrArg
		}
	}
	return s, api.OK
}

// image is the state of a record.
func (r *record) image() api.Record {
	x := api.Record{Key: r.key, Held: copyGiven(r.Given), Echoes: votesOf(r.echoes), Readies: votesOf(r.readies)}
	for _, c := range r.told {
		x.Clients = append(x.Clients, copyTold(c))
	}
	return x
}

// adopts makes a record of its state; false: it may not be.
func (s *Server) adopts(x api.Record) bool {
	if x.Held.Op != 0 || !s.mayGive(x.Held) || len(x.Clients) != s.clients {
		return false
	}
	r := s.newRecord(x.Key)
	if !putAll(r.echoes, x.Echoes) || !putAll(r.readies, x.Readies) {
		return false
	}
	for k, c := range x.Clients {
		if !s.mayTell(k+1, c) {
			return false
		}
		r.told[k] = copyTold(c)
	}
	r.Given = copyGiven(x.Held)
	s.records[r.key] = r
	return true
}

// mayGive tells whether a value may have been given.
func (s *Server) mayGive(x api.Given) bool {
	if isNone(x) {
		return true
	}
	if !stamp.May(x.Stamp) || len(x.Digest) != digestSize || !isOp(x.Op) {
		return false
	}
	if len(x.Matrix) == 0 && len(x.Ys) == 0 {
		return true
	}
	return matrix.Digest(x.Matrix) == x.Digest && s.mayHold(x.Matrix, x.Ys)
}

// mayTell tells whether this may be known of a client.
func (s *Server) mayTell(client int, c api.Told) bool {
	may := func(x api.Given) bool {
		// One that was never given is of no client, and has no number.
		return isNone(x) || x.Stamp.Client == client && s.mayGive(x)
	}
	if !may(c.Even) || !may(c.Odd) || !may(c.Waits) {
		return false
	}
	inPlace := parity(c.Even.Stamp) == 0 && (isNone(c.Odd) || parity(c.Odd.Stamp) == 1)
	return inPlace && isOp(c.Op) && isOp(c.Left)
}

// isNone tells whether all parts of a value that was given are zero.
func isNone(x api.Given) bool {
	return x.Stamp == (api.Stamp{}) && x.Digest == "" && len(x.Matrix) == 0 && len(x.Ys) == 0 && x.Op == 0
}

// isOp tells whether a number is an operation's, or 0.
func isOp(n int) bool { return n >= 0 && n <= api.MaxOps }

// votesOf are all votes that there are, by the servers, by the clients, even, then odd.
func votesOf(v *votes.Votes) []api.Vote {
	var list []api.Vote
	// Servers may vouch for stamps of clients that there are not; of servers that there are not there is no vote.
	for server := 1; server <= api.MaxServers; server++ {
		for client := 1; client <= api.MaxClients; client++ {
			for odd := range parities {
				if s, digest := v.At(server, client, odd); s.Seq > 0 {
					list = append(list, api.Vote{Server: server, Stamp: s, Digest: digest})
				}
			}
		}
	}
	return list
}

// putAll puts votes where there were none; false: they may not be, or do not stand as an image tells them.
func putAll(v *votes.Votes, l []api.Vote) bool {
	for _, x := range l {
		if len(x.Digest) != digestSize || !v.Put(x.Server, x.Stamp, x.Digest) {
			return false
		}
	}
	// One that came to the place of another one, or stands ahead of its time, is found out by this.
	return slices.Equal(votesOf(v), l)
}

// copyGiven is a value that was given, in new memory.
func copyGiven(x api.Given) api.Given {
	x.Digest = strings.Clone(x.Digest)
	x.Matrix = copyMatrix(x.Matrix)
	x.Ys = copyList(x.Ys)
	return x
}

// copyTold is what is known of a client, in new memory.
func copyTold(c api.Told) api.Told {
	c.Even, c.Odd, c.Waits = copyGiven(c.Even), copyGiven(c.Odd), copyGiven(c.Waits)
	return c
}

// copyMatrix is a matrix in new memory.
func copyMatrix(m api.Matrix) api.Matrix {
	var rows api.Matrix
	for _, row := range m {
		rows = append(rows, copyList(row))
	}
	return rows
}

// copyList is a list of naturals in new memory.
func copyList(l []api.Nat) []api.Nat {
	return append([]api.Nat(nil), l...)
}
