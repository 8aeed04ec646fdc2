package writer_test

import (
	"math/big"
	"slices"

	"sacristy/api"
	"sacristy/group"
	"sacristy/matrix"
	"sacristy/wire"
)

// model is a writer by the chapter's words, with numbers, stamps and draws told without the layers that tell them.
type model struct {
	g             *group.Group
	t, n          int
	client, op    int
	key           string
	numbers       []api.Nat
	phase         string
	told          map[int]int
	answered      map[int]bool
	stamp         api.Stamp
	m             api.Matrix
	parts         []api.Part
	numberOfDraws int
}

func newModel(g *group.Group, t, client, op int, key, value string, there bool) *model {
	return &model{g: g, t: t, n: 3*t + 1, client: client, op: op, key: key, numbers: numbersOf(g, value, there), phase: "asks", told: map[int]int{}, answered: map[int]bool{}}
}

// numbersOf are a value's numbers, by the words of chapter 11.
func numbersOf(g *group.Group, value string, there bool) []api.Nat {
	bytes := "\x00"
	if there {
		bytes = string([]byte{byte(1 + len(value))}) + value
	}
	size := (toBig(g.Q()).BitLen() - 1) / 8
	for len(bytes)%size != 0 {
		bytes += "\x00"
	}
	var list []api.Nat
	for ; bytes != ""; bytes = bytes[size:] {
		list = append(list, fromBig(new(big.Int).SetBytes([]byte(bytes[:size]))))
	}
	return list
}

// drawsOf are so many draws of a text, by the words of chapter 10, and what is left of it; false: there are not as many.
func drawsOf(g *group.Group, text string, count int) ([]api.Nat, string, bool) {
	q := toBig(g.Q())
	width := (q.BitLen() + 7) / 8
	var list []api.Nat
	left := text
	for len(list) < count {
		if len(left) < width {
			return nil, text, false
		}
		tried := new(big.Int).SetBytes([]byte(left[:width]))
		left = left[width:]
		for bit := q.BitLen(); bit < 8*width; bit++ {
			tried.SetBit(tried, bit, 0)
		}
		if tried.Cmp(q) < 0 {
			list = append(list, fromBig(tried))
		}
	}
	return list, left, true
}

// vouched is layer 20's number, told by the order of all numbers.
func (o *model) vouched() (int, bool) {
	var all []int
	for _, seq := range o.told {
		all = append(all, seq)
	}
	slices.Sort(all)
	slices.Reverse(all)
	if len(all) < o.t+1 {
		return 0, false
	}
	v, passed := all[o.t], 0
	for _, seq := range all {
		if seq > v {
			passed++
		}
	}
	return v, len(all)-passed >= 2*o.t+1
}

func (o *model) bare(kind int) []api.Out {
	var outs []api.Out
	for to := 1; to <= o.n; to++ {
		outs = append(outs, api.Out{To: to, M: api.Msg{Kind: kind, Op: o.op, Key: o.key}})
	}
	return outs
}

func (o *model) start() []api.Out { return o.bare(1) }

func (o *model) proposals() []api.Out {
	var outs []api.Out
	for to := 1; to <= o.n; to++ {
		if !o.answered[to] {
			outs = append(outs, api.Out{To: to, M: api.Msg{Kind: 4, Op: o.op, Key: o.key, Stamp: o.stamp, Matrix: o.m, Ys: o.parts[to-1].Ys}})
		}
	}
	return outs
}

func (o *model) tick() []api.Out {
	switch o.phase {
	case "asks":
		return o.start()
	case "gives":
		return o.proposals()
	}
	return nil
}

func (o *model) end(e api.Errno) ([]api.Out, bool, api.Errno) {
	o.phase = "done"
	return o.bare(2), true, e
}

// random is a tape, as text; nil: there is none.
type random *string

func (o *model) step(from int, m api.Msg, x random) ([]api.Out, bool, api.Errno) {
	if wire.Check(m) != api.OK || m.Op != o.op || m.Key != o.key || from < 1 || from > o.n {
		return nil, false, 0
	}
	switch {
	case o.phase == "asks" && m.Kind == 3:
		if was, ok := o.told[from]; !ok || was < m.Stamp.Seq {
			o.told[from] = m.Stamp.Seq
		}
		if v, ok := o.vouched(); ok {
			return o.give(v, x)
		}
	case o.phase == "gives" && m.Kind == 7 && m.Stamp == o.stamp:
		o.answered[from] = true
		if len(o.answered) >= 2*o.t+1 {
			return o.end(0)
		}
	}
	return nil, false, 0
}

func (o *model) give(v int, x random) ([]api.Out, bool, api.Errno) {
	if v >= maxSeq {
		return o.end(2)
	}
	if x == nil {
		return o.end(1)
	}
	list, left, ok := drawsOf(o.g, *x, o.t*len(o.numbers))
	if !ok {
		return o.end(5)
	}
	*x = left
	o.phase, o.stamp = "gives", api.Stamp{Seq: v + 1, Client: o.client}
	o.m, o.parts, _ = matrix.Deal(o.g, o.t, o.numbers, list)
	o.numberOfDraws = len(list)
	return o.proposals(), false, 0
}

func toBig(a api.Nat) *big.Int {
	sum := new(big.Int)
	for k := len(a) - 1; k >= 0; k-- {
		sum.Lsh(sum, 64)
		sum.Add(sum, new(big.Int).SetUint64(a[k]))
	}
	return sum
}

func fromBig(n *big.Int) api.Nat {
	bytes := n.FillBytes(make([]byte, 32))
	var a api.Nat
	for k, b := range bytes {
		a[3-k/8] = a[3-k/8]<<8 | uint64(b)
	}
	return a
}

func sameMatrix(a, b api.Matrix) bool {
	return slices.EqualFunc(a, b, func(x, y []api.Nat) bool { return slices.Equal(x, y) })
}

func sameOut(a, b api.Out) bool {
	x, y := a.M, b.M
	return a.To == b.To && x.Kind == y.Kind && x.Op == y.Op && x.Key == y.Key && x.Stamp == y.Stamp && x.Digest == y.Digest && sameMatrix(x.Matrix, y.Matrix) && slices.Equal(x.Ys, y.Ys)
}

func sameOuts(a, b []api.Out) bool { return slices.EqualFunc(a, b, sameOut) }
