package reader_test

import (
	"crypto/sha256"
	"fmt"
	"math/big"
	"slices"
	"testing"

	"sacristy/api"
	"sacristy/group"
	"sacristy/matrix"
	"sacristy/reader"
	"sacristy/wire"
)

// dealt is a matrix of which the polynomials are known.
type dealt struct {
	g      *group.Group
	t      int
	m      api.Matrix
	polys  [][]api.Nat
	digest string
}

// deal shares numbers out, by random ones below Q.
func deal(tb testing.TB, g *group.Group, liars int, numbers, random []api.Nat) *dealt {
	tb.Helper()
	m, _, e := matrix.Deal(g, liars, numbers, random)
	if e != api.OK {
		tb.Fatalf("Deal: %d", e)
	}
	d := &dealt{g: g, t: liars, m: m, digest: digestOf(m)}
	for k, number := range numbers {
		d.polys = append(d.polys, append([]api.Nat{number}, random[k*liars:(k+1)*liars]...))
	}
	return d
}

// digestOf is a matrix's digest, by the words of chapter 16.
func digestOf(m api.Matrix) string {
	var text []byte
	if len(m) > 0 {
		text = []byte{byte(len(m)), byte(len(m[0]))}
	}
	for _, row := range m {
		for _, c := range row {
			bytes := toBig(c).Bytes()
			text = append(append(text, byte(len(bytes))), bytes...)
		}
	}
	sum := sha256.Sum256(text)
	return string(sum[:])
}

// at are a server's shares.
func (d *dealt) at(server int) []api.Nat {
	q, x := toBig(d.g.Q()), big.NewInt(int64(server))
	var ys []api.Nat
	for _, poly := range d.polys {
		sum := new(big.Int)
		for k := len(poly) - 1; k >= 0; k-- {
			sum.Mul(sum, x).Add(sum, toBig(poly[k])).Mod(sum, q)
		}
		ys = append(ys, fromBig(sum))
	}
	return ys
}

// numbersOf are a value's numbers, by the words of chapter 11.
func numbersOf(g *group.Group, value string, there bool) []api.Nat {
	bytes := "\x00"
	if there {
		bytes = string([]byte{byte(1 + len(value))}) + value
	}
	size := sizeOf(g)
	for len(bytes)%size != 0 {
		bytes += "\x00"
	}
	var list []api.Nat
	for ; bytes != ""; bytes = bytes[size:] {
		list = append(list, fromBig(new(big.Int).SetBytes([]byte(bytes[:size]))))
	}
	return list
}

func sizeOf(g *group.Group) int { return (toBig(g.Q()).BitLen() - 1) / 8 }

// valueOf is the value that has just these numbers, if there is one.
func valueOf(g *group.Group, numbers []api.Nat) (string, bool) {
	var bytes []byte
	for _, n := range numbers {
		if toBig(n).BitLen() > 8*sizeOf(g) {
			return "", false
		}
		bytes = append(bytes, toBig(n).FillBytes(make([]byte, sizeOf(g)))...)
	}
	// One of a length ahead of what is behind it, or none has these numbers.
	for length := 0; length <= 24 && length < len(bytes); length++ {
		if value := string(bytes[1 : 1+length]); slices.Equal(numbersOf(g, value, true), numbers) {
			return value, true
		}
	}
	return "", false
}

// model is a reader by the chapter's words, which knows of each matrix that it is told the polynomials, if there are any.
type model struct {
	g      *group.Group
	t, n   int
	op     int
	key    string
	book   []*dealt
	latest map[int]api.Msg
	over   bool
	result reader.Result
}

func newModel(g *group.Group, t, op int, key string, book []*dealt) *model {
	return &model{g: g, t: t, n: 3*t + 1, op: op, key: key, book: book, latest: map[int]api.Msg{}}
}

func (o *model) bare(kind int) []api.Out {
	var outs []api.Out
	for to := 1; to <= o.n; to++ {
		outs = append(outs, api.Out{To: to, M: api.Msg{Kind: kind, Op: o.op, Key: o.key}})
	}
	return outs
}

func (o *model) start() []api.Out { return o.bare(1) }

func (o *model) tick() []api.Out {
	if o.over {
		return nil
	}
	return o.start()
}

func (o *model) step(from int, m api.Msg) ([]api.Out, bool) {
	if o.over || from < 1 || from > o.n || wire.Check(m) != api.OK || m.Kind != 3 || m.Op != o.op || m.Key != o.key {
		return nil, false
	}
	was, has := o.latest[from]
	switch {
	case !has,
		m.Stamp.Seq > was.Stamp.Seq,
		m.Stamp.Seq == was.Stamp.Seq && m.Stamp.Client > was.Stamp.Client,
		m.Stamp == was.Stamp && m.Digest == was.Digest && len(m.Ys) > 0 && len(was.Ys) == 0:
		o.latest[from] = copied(m)
	}
	servers := map[string][]int{}
	for from := 1; from <= o.n; from++ {
		if m, has := o.latest[from]; has {
			text := fmt.Sprintf("%d %d %x", m.Stamp.Seq, m.Stamp.Client, m.Digest)
			servers[text] = append(servers[text], from)
		}
	}
	for _, list := range servers {
		if len(list) > 2*o.t {
			return o.read(list)
		}
	}
	return nil, false
}

// read is what is read of servers that tell the same.
func (o *model) read(list []int) ([]api.Out, bool) {
	s := o.latest[list[0]].Stamp
	if s.Seq == 0 {
		o.over = true
		return o.bare(2), true
	}
	d := o.known(o.latest[list[0]].Digest)
	if d == nil {
		return nil, false
	}
	right, mends := 0, []api.Out(nil)
	for _, server := range list {
		if m := o.latest[server]; sameMatrix(m.Matrix, d.m) && slices.Equal(m.Ys, d.at(server)) {
			right++
			continue
		}
		mends = append(mends, api.Out{To: server, M: api.Msg{Kind: 8, Op: o.op, Key: o.key, Stamp: s, Matrix: d.m, Ys: d.at(server)}})
	}
	if right <= o.t {
		return nil, false
	}
	var numbers []api.Nat
	for _, poly := range d.polys {
		numbers = append(numbers, poly[0])
	}
	o.over, o.result = true, reader.Result{Stamp: s}
	o.result.Value, o.result.There = valueOf(o.g, numbers)
	return append(mends, o.bare(2)...), true
}

// known is what was dealt, to as many servers, with a digest.
func (o *model) known(digest string) *dealt {
	for _, d := range o.book {
		if d.digest == digest && d.t == o.t {
			return d
		}
	}
	return nil
}

func copied(m api.Msg) api.Msg {
	rows := make(api.Matrix, len(m.Matrix))
	for k := range rows {
		rows[k] = slices.Clone(m.Matrix[k])
	}
	m.Matrix, m.Ys = rows, slices.Clone(m.Ys)
	return m
}

func toBig(a api.Nat) *big.Int {
	sum := new(big.Int)
	for k := len(a) - 1; k >= 0; k-- {
		sum.Lsh(sum, 64)
		sum.Add(sum, new(big.Int).SetUint64(a[k]))
	}
	return sum
}

func fromBig(n *big.Int) api.Nat {
	bytes := n.FillBytes(make([]byte, 32))
	var a api.Nat
	for k, b := range bytes {
		a[3-k/8] = a[3-k/8]<<8 | uint64(b)
	}
	return a
}

func sameMatrix(a, b api.Matrix) bool {
	return slices.EqualFunc(a, b, func(x, y []api.Nat) bool { return slices.Equal(x, y) })
}

func sameOut(a, b api.Out) bool {
	x, y := a.M, b.M
	return a.To == b.To && x.Kind == y.Kind && x.Op == y.Op && x.Key == y.Key && x.Stamp == y.Stamp && x.Digest == y.Digest && sameMatrix(x.Matrix, y.Matrix) && slices.Equal(x.Ys, y.Ys)
}

func sameOuts(a, b []api.Out) bool { return slices.EqualFunc(a, b, sameOut) }
