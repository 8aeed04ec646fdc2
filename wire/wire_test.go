package wire_test

import (
	"math/big"
	"math/rand/v2"
	"slices"
	"strings"
	"testing"

	"sacristy/api"
	"sacristy/matrix"
	"sacristy/nat"
	"sacristy/wire"
)

const ones = 1<<64 - 1

var (
	all    = api.Nat{ones, ones, ones, ones}
	stamp  = api.Stamp{Seq: 5, Client: 2}
	digest = "0123456789abcdefghijklmnopqrstuv"
)

// toBig is what the limbs mean, told without the packages that are tested.
func toBig(a api.Nat) *big.Int {
	sum := new(big.Int)
	for k := api.Limbs - 1; k >= 0; k-- {
		sum.Lsh(sum, api.LimbBits)
		sum.Add(sum, new(big.Int).SetUint64(a[k]))
	}
	return sum
}

// fromBig is a number below 2^256, as limbs.
func fromBig(n *big.Int) api.Nat {
	rest := new(big.Int).Set(n)
	var a api.Nat
	for k := range a {
		a[k] = new(big.Int).And(rest, new(big.Int).SetUint64(ones)).Uint64()
		rest.Rsh(rest, api.LimbBits)
	}
	return a
}

// toBePut is what layer 16 says of a matrix that has bytes.
func toBePut(m api.Matrix) bool {
	if len(m) < 1 || len(m) > 25 {
		return false
	}
	count := len(m[0])
	return count >= 1 && count <= 7 && !slices.ContainsFunc(m, func(row []api.Nat) bool { return len(row) != count })
}

// row is what the chapter's table says of a kind: whether Seq and Client may, or must be 0, and which digests and matrices may, or must be.
type row struct {
	op, never, stamped, digest, bare, dealt bool
}

// table is the chapter's, by kinds; those of MsgState are its two cases.
func table(m api.Msg) []row {
	switch m.Kind {
	case 1, 2:
		return []row{{op: true, never: true, bare: true}}
	case 3:
		return []row{{op: true, never: true, bare: true}, {op: true, stamped: true, digest: true, bare: true, dealt: true}}
	case 4, 8:
		return []row{{op: true, stamped: true, dealt: true}}
	case 5, 6:
		return []row{{stamped: true, digest: true, bare: true}}
	case 7:
		return []row{{op: true, stamped: true, bare: true}}
	}
	return nil
}

// wantMay tells whether a message may be.
func wantMay(m api.Msg) bool {
	if len(m.Key) < 1 || len(m.Key) > 8 {
		return false
	}
	return slices.ContainsFunc(table(m), func(r row) bool {
		op := r.op && m.Op > 0 && m.Op <= 1048576 || !r.op && m.Op == 0
		never := m.Stamp.Seq == 0 && m.Stamp.Client == 0
		stamped := m.Stamp.Seq > 0 && m.Stamp.Seq <= 1099511627776 && m.Stamp.Client > 0 && m.Stamp.Client <= 4
		digest := r.digest && len(m.Digest) == 32 || !r.digest && m.Digest == ""
		bare := len(m.Matrix) == 0 && len(m.Ys) == 0
		dealt := toBePut(m.Matrix) && len(m.Ys) == len(m.Matrix)
		return op && (r.never && never || r.stamped && stamped) && digest && (r.bare && bare || r.dealt && dealt)
	})
}

// appendNumber appends a number as so many bytes, the highest first.
func appendNumber(text []byte, n, size int) []byte {
	bytes := make([]byte, size)
	return append(text, new(big.Int).SetInt64(int64(n)).FillBytes(bytes)...)
}

// appendNat appends a natural's bytes, behind how many they are.
func appendNat(text []byte, a api.Nat) []byte {
	bytes := toBig(a).Bytes()
	return append(append(text, byte(len(bytes))), bytes...)
}

// wantBytes are the bytes of a message that may be, told without layers 1 and 16.
func wantBytes(m api.Msg) string {
	text := appendNumber([]byte{byte(m.Kind)}, m.Op, 4)
	text = append(append(text, byte(len(m.Key))), m.Key...)
	text = append(appendNumber(text, m.Stamp.Seq, 6), byte(m.Stamp.Client))
	text = append(append(text, byte(len(m.Digest))), m.Digest...)
	var commitments []byte
	if len(m.Matrix) > 0 {
		commitments = []byte{byte(len(m.Matrix)), byte(len(m.Matrix[0]))}
	}
	for _, row := range m.Matrix {
		for _, c := range row {
			commitments = appendNat(commitments, c)
		}
	}
	text = append(appendNumber(text, len(commitments), 2), commitments...)
	for _, y := range m.Ys {
		text = appendNat(text, y)
	}
	return string(text)
}

// peel cuts so many bytes off; what is missing counts as bytes 0.
func peel(s *string, count int) string {
	cut := min(count, len(*s))
	taken := (*s)[:cut]
	*s = (*s)[cut:]
	return taken + strings.Repeat("\x00", count-cut)
}

// peelNumber cuts a number of so many bytes off.
func peelNumber(s *string, size int) int {
	return int(new(big.Int).SetBytes([]byte(peel(s, size))).Int64())
}

// peelNat cuts a natural off, of which at most 32 bytes count.
func peelNat(s *string) api.Nat {
	bytes := peel(s, peelNumber(s, 1))
	return fromBig(new(big.Int).SetBytes([]byte(bytes[:min(len(bytes), 32)])))
}

// wantTake is the message of bytes: what they seem to say, if it may be, and has just these bytes.
func wantTake(s string) (api.Msg, api.Errno) {
	left := s
	m := api.Msg{Kind: peelNumber(&left, 1), Op: peelNumber(&left, 4)}
	m.Key = peel(&left, peelNumber(&left, 1))
	m.Stamp.Seq = peelNumber(&left, 6)
	m.Stamp.Client = peelNumber(&left, 1)
	m.Digest = peel(&left, peelNumber(&left, 1))
	if peelNumber(&left, 2) > 0 {
		rows, columns := peelNumber(&left, 1), peelNumber(&left, 1)
		if rows > 25 || columns > 7 {
			return api.Msg{}, api.ErrBad
		}
		m.Matrix = make(api.Matrix, rows)
		for k := range m.Matrix {
			for range columns {
				m.Matrix[k] = append(m.Matrix[k], peelNat(&left))
			}
		}
		for range rows {
			m.Ys = append(m.Ys, peelNat(&left))
		}
	}
	if len(s) > 8192 || !wantMay(m) || wantBytes(m) != s {
		return api.Msg{}, api.ErrBad
	}
	return m, api.OK
}

// sameMsg tells whether messages are the same.
func sameMsg(a, b api.Msg) bool {
	return a.Kind == b.Kind && a.Op == b.Op && a.Key == b.Key && a.Stamp == b.Stamp && a.Digest == b.Digest &&
		slices.EqualFunc(a.Matrix, b.Matrix, slices.Equal) && slices.Equal(a.Ys, b.Ys)
}

// copyMsg is a message in memory of its own.
func copyMsg(m api.Msg) api.Msg {
	m.Matrix = slices.Clone(m.Matrix)
	for k := range m.Matrix {
		m.Matrix[k] = slices.Clone(m.Matrix[k])
	}
	m.Ys = slices.Clone(m.Ys)
	return m
}

// checkPut looks at Check and Put, at Take of what was put, and whether the message is left as it was.
func checkPut(t *testing.T, m api.Msg) (string, api.Errno) {
	t.Helper()
	was := copyMsg(m)
	want, wantErr := "", api.ErrArg
	if wantMay(m) {
		want, wantErr = wantBytes(m), api.OK
	}
	if e := wire.Check(m); e != wantErr {
		t.Fatalf("Check(%x) = %d, not %d", m, e, wantErr)
	}
	s, e := wire.Put(m)
	if s != want || e != wantErr {
		t.Fatalf("Put(%x) = %x, %d, not %x, %d", m, s, e, want, wantErr)
	}
	if !sameMsg(m, was) {
		t.Fatalf("%x was changed into %x", was, m)
	}
	if e != api.OK {
		return s, e
	}
	if back, e := wire.Take(s); !sameMsg(back, m) || e != api.OK {
		t.Fatalf("Take(%x) = %x, %d, not %x", s, back, e, m)
	}
	return s, e
}

// checkTake looks at Take, and at Put of what was taken.
func checkTake(t *testing.T, s string) api.Errno {
	t.Helper()
	want, wantErr := wantTake(s)
	m, e := wire.Take(s)
	if !sameMsg(m, want) || e != wantErr {
		t.Fatalf("Take(%x) = %x, %d, not %x, %d", s, m, e, want, wantErr)
	}
	if e != api.OK {
		return e
	}
	if again, e := wire.Put(m); again != s || e != api.OK {
		t.Fatalf("Put(%x) = %x, %d, not %x", m, again, e, s)
	}
	return e
}

// shape is a matrix of so many rows and columns of a natural.
func shape(rows, columns int, a api.Nat) api.Matrix {
	m := make(api.Matrix, rows)
	for k := range m {
		m[k] = slices.Repeat([]api.Nat{a}, columns)
	}
	return m
}

// right are messages that may be, of each kind, and of MsgState the three that there are.
func right() []api.Msg {
	m, ys := api.Matrix{{nat.Of(7), nat.Of(300)}, {{}, all}}, []api.Nat{nat.Of(9), {0, 0, 1}}
	return []api.Msg{
		{Kind: api.MsgListen, Op: 1, Key: "k"},
		{Kind: api.MsgLeave, Op: 2, Key: "key"},
		{Kind: api.MsgState, Op: 3, Key: "k"},
		{Kind: api.MsgState, Op: 3, Key: "k", Stamp: stamp, Digest: digest},
		{Kind: api.MsgState, Op: 3, Key: "k", Stamp: stamp, Digest: digest, Matrix: m, Ys: ys},
		{Kind: api.MsgPropose, Op: 4, Key: "k", Stamp: stamp, Matrix: m, Ys: ys},
		{Kind: api.MsgEcho, Key: "k", Stamp: stamp, Digest: digest},
		{Kind: api.MsgReady, Key: "k", Stamp: stamp, Digest: digest},
		{Kind: api.MsgAck, Op: 5, Key: "k", Stamp: stamp},
		{Kind: api.MsgMend, Op: 6, Key: "k", Stamp: stamp, Matrix: m, Ys: ys},
	}
}

// changes are all ways in which one thing of a message may be made another, for each thing a list.
func changes() [][]func(m *api.Msg) {
	lists := make([][]func(m *api.Msg), 6)
	for _, n := range []int{api.MinInt, -1, 0, 1, 2, 3, 4, 5, 6, 7, 8, 9, 255, 256, 257, 1<<32 + 1, api.MaxInt} {
		lists[0] = append(lists[0], func(m *api.Msg) { m.Kind = n })
	}
	for _, n := range []int{api.MinInt, -1, 0, 1, 2, 255, 256, 1 << 19, 1<<20 - 1, 1 << 20, 1<<20 + 1, 1 << 32, 1<<32 + 1, api.MaxInt} {
		lists[1] = append(lists[1], func(m *api.Msg) { m.Op = n })
	}
	for _, n := range []int{0, 1, 2, 7, 8, 9, 255, 256, 257} {
		lists[2] = append(lists[2], func(m *api.Msg) { m.Key = strings.Repeat("\xff", n) })
	}
	for _, seq := range []int{api.MinInt, -1, 0, 1, 2, 1 << 32, 1<<40 - 1, 1 << 40, 1<<40 + 1, 1 << 48, 1<<48 + 1, api.MaxInt} {
		for _, client := range []int{api.MinInt, -1, 0, 1, 2, 4, 5, 256, 257, api.MaxInt} {
			lists[3] = append(lists[3], func(m *api.Msg) { m.Stamp = api.Stamp{Seq: seq, Client: client} })
		}
	}
	for _, n := range []int{0, 1, 31, 32, 33, 64, 255, 256, 288} {
		lists[4] = append(lists[4], func(m *api.Msg) { m.Digest = strings.Repeat("d", n) })
	}
	matrices := []api.Matrix{nil, {}, {{}}, {nil, nil}, shape(1, 1, all), shape(1, 7, all), shape(1, 8, all), shape(2, 3, all), shape(24, 1, all),
		shape(25, 1, all), shape(25, 7, all), shape(26, 1, all), shape(26, 7, all), {{{1}}, {{1}, {2}}}, {{{1}, {2}}, {{1}}}, {{{1}}, {}}, {{}, {{1}}}, {{{}}, {{}}}}
	for _, x := range matrices {
		for _, n := range []int{0, 1, 2, 3, 24, 25, 26, len(x)} {
			lists[5] = append(lists[5], func(m *api.Msg) { m.Matrix, m.Ys = x, slices.Repeat([]api.Nat{{1}}, n) })
		}
	}
	return lists
}

// Wr1: the example of the chapter, and bytes of other kinds that were told by hand.
func TestPutByHeart(t *testing.T) {
	listen := api.Msg{Kind: api.MsgListen, Op: 1, Key: "k"}
	if s, e := wire.Put(listen); s != "\x01\x00\x00\x00\x01\x01k\x00\x00\x00\x00\x00\x00\x00\x00\x00\x00" || e != api.OK {
		t.Errorf("%x %d", s, e)
	}
	last := api.Stamp{Seq: 1 << 40, Client: 4}
	for want, m := range map[string]api.Msg{
		"\x02\x00\x10\x00\x00\x08\x00bcdefg\xff\x00\x00\x00\x00\x00\x00\x00\x00\x00\x00":                          {Kind: api.MsgLeave, Op: 1 << 20, Key: "\x00bcdefg\xff"},
		"\x03\x00\x0f\xff\xff\x01k\x00\x00\x00\x00\x00\x00\x00\x00\x00\x00":                                       {Kind: api.MsgState, Op: 1<<20 - 1, Key: "k"},
		"\x05\x00\x00\x00\x00\x01k\x01\x00\x00\x00\x00\x00\x04\x20" + digest + "\x00\x00":                         {Kind: api.MsgEcho, Key: "k", Stamp: last, Digest: digest},
		"\x06\x00\x00\x00\x00\x01k\x00\x00\x00\x00\x00\x01\x01\x20" + digest + "\x00\x00":                         {Kind: api.MsgReady, Key: "k", Stamp: api.Stamp{Seq: 1, Client: 1}, Digest: digest},
		"\x07\x00\x01\x02\x03\x01k\x00\x05\x06\x07\x08\x09\x03\x00\x00\x00":                                       {Kind: api.MsgAck, Op: 0x010203, Key: "k", Stamp: api.Stamp{Seq: 0x0506070809, Client: 3}},
		"\x08\x00\x00\x00\x02\x01k\x00\x00\x00\x00\x00\x05\x02\x00\x00\x07\x02\x01\x01\x05\x02\x01\x00\x00\x01!":  {Kind: api.MsgMend, Op: 2, Key: "k", Stamp: stamp, Matrix: api.Matrix{{{5}}, {{256}}}, Ys: []api.Nat{{}, {33}}},
		"\x03\x00\x00\x00\x01\x01k\x00\x00\x00\x00\x00\x05\x02\x20" + digest + "\x00\x03\x01\x01\x00\x02\x01\x02": {Kind: api.MsgState, Op: 1, Key: "k", Stamp: stamp, Digest: digest, Matrix: api.Matrix{{{}}}, Ys: []api.Nat{{258}}},
	} {
		if s, e := checkPut(t, m); s != want || e != api.OK {
			t.Errorf("%x %d, not %x", s, e, want)
		}
	}
}

// Wr1: keys are of 1 to 8 bytes, whatever these are.
func TestKey(t *testing.T) {
	for n := range 300 {
		for _, one := range []string{"k", "\x00", "\xff", " ", "\n"} {
			if got := wire.Key(strings.Repeat(one, n)); got != (n >= 1 && n <= 8) {
				t.Fatal(n, one, got)
			}
		}
	}
	for s, want := range map[string]bool{"äöüß": true, "äöüß!": false, "日本": true, "日本語": false} {
		if wire.Key(s) != want {
			t.Error(s)
		}
	}
	for n := range 256 {
		checkPut(t, api.Msg{Kind: api.MsgListen, Op: 1, Key: string([]byte{byte(n)})})
	}
}

// Wr1: messages of all kinds, with any one, and any two, of their things made others.
func TestChanges(t *testing.T) {
	lists := changes()
	counts := map[api.Errno]int{}
	for _, m := range right() {
		for k, first := range lists {
			for _, one := range first {
				changed := m
				one(&changed)
				_, e := checkPut(t, changed)
				counts[e]++
				for _, second := range lists[:k] {
					for _, other := range second {
						changed := changed
						other(&changed)
						_, e := checkPut(t, changed)
						counts[e]++
					}
				}
			}
		}
	}
	if counts[api.OK] < 1000 || counts[api.ErrArg] < 1000 {
		t.Error(counts)
	}
}

// Wr1: what the table says of one kind is not said of others: all that is right of one, as each other one.
func TestOtherKinds(t *testing.T) {
	for _, m := range right() {
		for kind := range 10 {
			for _, op := range []int{0, 1} {
				m.Kind, m.Op = kind, op
				checkPut(t, m)
			}
		}
	}
}

// Wr1: of Seq 0 a state has nothing; and Client 0 goes with Seq 0 alone.
func TestStateOfNever(t *testing.T) {
	bare := api.Msg{Kind: api.MsgState, Op: 1, Key: "k"}
	if _, e := checkPut(t, bare); e != api.OK {
		t.Error(e)
	}
	one, ys := api.Matrix{{{1}}}, []api.Nat{{1}}
	for _, m := range []api.Msg{
		{Digest: digest}, {Matrix: one, Ys: ys}, {Digest: digest, Matrix: one, Ys: ys}, {Ys: ys}, {Matrix: one},
		{Stamp: api.Stamp{Client: 1}}, {Stamp: api.Stamp{Client: 1}, Digest: digest}, {Stamp: api.Stamp{Seq: 1}}, {Stamp: api.Stamp{Seq: 1}, Digest: digest},
		{Stamp: stamp}, {Stamp: stamp, Matrix: one, Ys: ys}, {Stamp: stamp, Digest: digest, Ys: ys}, {Stamp: stamp, Digest: digest, Matrix: one},
	} {
		m.Kind, m.Op, m.Key = bare.Kind, bare.Op, bare.Key
		if _, e := checkPut(t, m); e != api.ErrArg {
			t.Errorf("%x: %d", m, e)
		}
	}
}

// Wr1: matrices of all shapes, with as many shares as rows, and with one more and one less.
func TestShapes(t *testing.T) {
	for rows := range 28 {
		for columns := range 10 {
			for _, many := range []int{rows - 1, rows, rows + 1, rows * columns} {
				for _, a := range []api.Nat{{}, {1}, all} {
					m := api.Msg{Kind: api.MsgPropose, Op: 1, Key: "k", Stamp: stamp, Matrix: shape(rows, columns, a), Ys: slices.Repeat([]api.Nat{a}, max(many, 0))}
					_, e := checkPut(t, m)
					may := rows >= 1 && rows <= 25 && columns >= 1 && columns <= 7 && many == rows
					if may != (e == api.OK) {
						t.Fatal(rows, columns, many, e)
					}
				}
			}
		}
	}
}

// Wr1: a row that is longer or shorter than the first one, at each place.
func TestUneven(t *testing.T) {
	for k := range 25 {
		for _, columns := range []int{0, 1, 3, 7, 8} {
			m := api.Msg{Kind: api.MsgMend, Op: 1, Key: "k", Stamp: stamp, Matrix: shape(25, 2, all), Ys: make([]api.Nat, 25)}
			m.Matrix[k] = make([]api.Nat, columns)
			if _, e := checkPut(t, m); e != api.ErrArg {
				t.Fatal(k, columns, e)
			}
		}
	}
}

// Wr1: the longest message that may be, of 56 bytes, 25 rows of 7, and 25 shares, is put: MaxFrame is never too few.
func TestLongest(t *testing.T) {
	m := api.Msg{Kind: api.MsgState, Op: api.MaxOps, Key: "12345678", Stamp: api.Stamp{Seq: api.MaxSeq, Client: 4}, Digest: digest, Matrix: shape(25, 7, all), Ys: slices.Repeat([]api.Nat{all}, 25)}
	s, e := checkPut(t, m)
	if e != api.OK || len(s) != 56+2+25*7*33+25*33 || len(s) > api.MaxFrame {
		t.Error(len(s), e)
	}
	if e := checkTake(t, s+strings.Repeat("\x00", api.MaxFrame-len(s))); e != api.ErrBad {
		t.Error(e)
	}
}

// Wr1: naturals of each length, as commitments and as shares.
func TestNaturals(t *testing.T) {
	for bits := range api.MaxBits + 1 {
		a := nat.Down(all, api.MaxBits-bits)
		b := nat.Up(nat.Of(1), bits)
		checkPut(t, api.Msg{Kind: api.MsgPropose, Op: 1, Key: "k", Stamp: stamp, Matrix: api.Matrix{{a, b}, {b, a}}, Ys: []api.Nat{a, b}})
	}
}

// Wr1, R3: no list and an empty one are the same.
func TestEmptyLists(t *testing.T) {
	for _, m := range right() {
		if len(m.Matrix) > 0 {
			continue
		}
		want, _ := checkPut(t, m)
		m.Matrix, m.Ys = api.Matrix{}, []api.Nat{}
		if s, e := checkPut(t, m); s != want || e != api.OK {
			t.Errorf("%x: %x, %d", m, s, e)
		}
		if back, _ := wire.Take(want); len(back.Matrix) != 0 || len(back.Ys) != 0 {
			t.Errorf("%x", back)
		}
	}
}

// Wr3: bytes that are cut at any place, or have more behind, are none.
func TestTakeCut(t *testing.T) {
	for _, m := range right() {
		s, _ := checkPut(t, m)
		for k := range len(s) {
			if e := checkTake(t, s[:k]); e != api.ErrBad {
				t.Fatalf("%x %d", s[:k], e)
			}
			if e := checkTake(t, s[k:]); k > 0 && e != api.ErrBad {
				t.Fatalf("%x %d", s[k:], e)
			}
		}
		for n := range 256 {
			if e := checkTake(t, s+string([]byte{byte(n)})); e != api.ErrBad {
				t.Fatalf("%x, and %d: %d", s, n, e)
			}
		}
		if e := checkTake(t, s+s); e != api.ErrBad {
			t.Fatalf("%x twice: %d", s, e)
		}
	}
}

// Wr2: bytes of which any one is made any other.
func TestTakeChanged(t *testing.T) {
	counts := map[api.Errno]int{}
	for _, m := range right() {
		s := wantBytes(m)
		for k := range len(s) {
			for n := range 256 {
				counts[checkTake(t, s[:k]+string([]byte{byte(n)})+s[k+1:])]++
			}
		}
	}
	if counts[api.OK] < 1000 || counts[api.ErrBad] < 1000 {
		t.Error(counts)
	}
}

// Wr2: bytes with one more, or without one, at any place.
func TestTakeShifted(t *testing.T) {
	for _, m := range right() {
		s := wantBytes(m)
		for k := range len(s) {
			checkTake(t, s[:k]+s[k+1:])
			for _, n := range []byte{0, 1, 2, 31, 32, 33, 255} {
				checkTake(t, s[:k]+string([]byte{n})+s[k:])
			}
		}
	}
}

// headed are bytes of a message from its kind to its digest, whatever is said there.
func headed(kind, op int, key string, seq, client int, digest string) string {
	text := appendNumber([]byte{byte(kind)}, op, 4)
	text = append(append(text, byte(len(key))), key...)
	text = append(appendNumber(text, seq, 6), byte(client))
	return string(append(append(text, byte(len(digest))), digest...))
}

// Wr2: numbers beyond what may be, of as many bytes as there are for them.
func TestTakeNumbers(t *testing.T) {
	for _, op := range []int{0, 1, 1 << 8, 1 << 16, 1 << 20, 1<<20 + 1, 1 << 24, 1<<24 + 1, 1<<31 - 1, 1 << 31, 1<<32 - 1} {
		want := api.ErrBad
		if op >= 1 && op <= 1<<20 {
			want = api.OK
		}
		if e := checkTake(t, headed(api.MsgListen, op, "k", 0, 0, "")+"\x00\x00"); e != want {
			t.Error(op, e)
		}
		if e := checkTake(t, headed(api.MsgEcho, op, "k", 1, 1, digest)+"\x00\x00"); (e == api.OK) != (op == 0) {
			t.Error(op, e)
		}
	}
	for _, seq := range []int{0, 1, 1 << 8, 1 << 16, 1 << 24, 1 << 32, 1<<40 - 1, 1 << 40, 1<<40 + 1, 1 << 41, 1 << 47, 1<<48 - 1} {
		for client := range 256 {
			want := api.ErrBad
			if seq >= 1 && seq <= 1<<40 && client >= 1 && client <= 4 {
				want = api.OK
			}
			if e := checkTake(t, headed(api.MsgAck, 1, "k", seq, client, "")+"\x00\x00"); e != want {
				t.Error(seq, client, e)
			}
		}
	}
	for kind := range 256 {
		if e := checkTake(t, headed(kind, 1, "k", 0, 0, "")+"\x00\x00"); (e == api.OK) != (kind >= 1 && kind <= 3) {
			t.Error(kind, e)
		}
	}
}

// Wr2: keys and digests of all lengths that a byte tells.
func TestTakeTexts(t *testing.T) {
	for n := range 256 {
		text := strings.Repeat("x", n)
		if e := checkTake(t, headed(api.MsgListen, 1, text, 0, 0, "")+"\x00\x00"); (e == api.OK) != (n >= 1 && n <= 8) {
			t.Error(n, e)
		}
		if e := checkTake(t, headed(api.MsgReady, 0, "k", 1, 1, text)+"\x00\x00"); (e == api.OK) != (n == 32) {
			t.Error(n, e)
		}
		if e := checkTake(t, headed(api.MsgAck, 1, "k", 1, 1, text)+"\x00\x00"); (e == api.OK) != (n == 0) {
			t.Error(n, e)
		}
	}
}

// Wr2: how many bytes the matrix has is told just as it is.
func TestTakeMatrixCount(t *testing.T) {
	head := headed(api.MsgPropose, 1, "k", 1, 1, "")
	for _, m := range []api.Matrix{{{{}}}, {{{1}}}, {{{}, {}}, {{}, {}}}, shape(25, 7, all)} {
		text := matrix.Bytes(m)
		for count := range len(text) + 70 {
			counted := string(appendNumber([]byte(head), count, 2))
			e := checkTake(t, counted+text+strings.Repeat("\x01\x05", len(m)))
			if (e == api.OK) != (count == len(text)) {
				t.Fatal(len(text), count, e)
			}
		}
	}
	for _, count := range []int{256, 512, 1 << 15, 1<<16 - 1} {
		if e := checkTake(t, string(appendNumber([]byte(head), count, 2))+matrix.Bytes(api.Matrix{{{1}}})+"\x01\x05"); e != api.ErrBad {
			t.Error(count, e)
		}
	}
}

// Wr2: a matrix, or shares, where the kind has none; and none where it has.
func TestTakeNotOfTheKind(t *testing.T) {
	none, one := "\x00\x00", "\x00\x04\x01\x01\x01\x07\x01\x09"
	for kind := range 10 {
		for _, digest := range []string{"", digest} {
			for _, op := range []int{0, 1} {
				for _, seq := range []int{0, 1} {
					for _, tail := range []string{none, one, none + "\x01\x09", none + "\x00", "\x00\x04\x01\x01\x01\x07"} {
						checkTake(t, headed(kind, op, "k", seq, seq, digest)+tail)
					}
				}
			}
		}
	}
}

// Wr3: naturals with a byte 0 ahead, or with too many bytes, would be other bytes of the same message: they are none.
func TestTakeNaturals(t *testing.T) {
	head := headed(api.MsgMend, 1, "k", 1, 1, "")
	bytes := []string{"", "\x00", "\x01", "\xff", "\x00\x01", "\x01\x00", "\x00\x00", strings.Repeat("\xff", 32), strings.Repeat("\xff", 33), "\x00" + strings.Repeat("\xff", 31), "\x00" + strings.Repeat("\xff", 32)}
	for _, c := range bytes {
		for _, y := range bytes {
			m := "\x01\x01" + string([]byte{byte(len(c))}) + c
			s := string(appendNumber([]byte(head), len(m), 2)) + m + string([]byte{byte(len(y))}) + y
			right := len(c) <= 32 && len(y) <= 32 && !strings.HasPrefix(c, "\x00") && !strings.HasPrefix(y, "\x00")
			if e := checkTake(t, s); (e == api.OK) != right {
				t.Errorf("%x %d", s, e)
			}
		}
	}
}

// Wr2: more bytes than MaxFrame are none, whatever they are.
func TestTakeLong(t *testing.T) {
	s := wantBytes(right()[0])
	for _, n := range []int{api.MaxFrame - 1, api.MaxFrame, api.MaxFrame + 1, 1 << 16, 1 << 20} {
		for _, one := range []string{"\x00", "\x01", "\x08", "\xff", "x"} {
			for _, long := range []string{strings.Repeat(one, n), s + strings.Repeat(one, n-len(s))} {
				if m, e := wire.Take(long); e != api.ErrBad || !sameMsg(m, api.Msg{}) {
					t.Errorf("%d of %x: %x, %d", n, one, m, e)
				}
			}
		}
	}
}

// Wr2: all bytes of up to two, and a few of three.
func TestTakeShort(t *testing.T) {
	if e := checkTake(t, ""); e != api.ErrBad {
		t.Error(e)
	}
	for a := range 256 {
		checkTake(t, string([]byte{byte(a)}))
		for b := range 256 {
			checkTake(t, string([]byte{byte(a), byte(b)}))
			checkTake(t, string([]byte{byte(a), byte(b), byte(a)}))
		}
	}
}

// drawMsg draws a message, that may be more often than not.
func drawMsg(r *rand.Rand) api.Msg {
	natural := func() api.Nat {
		return nat.Down(api.Nat{r.Uint64(), r.Uint64(), r.Uint64(), r.Uint64()}, r.IntN(api.MaxBits+1))
	}
	kinds := right()
	m := kinds[r.IntN(len(kinds))]
	key := make([]byte, 1+r.IntN(8))
	for k := range key {
		key[k] = byte(r.IntN(256))
	}
	m.Key = string(key)
	if m.Op > 0 {
		m.Op = 1 + r.IntN(1<<r.IntN(21))
	}
	if m.Stamp.Seq > 0 {
		m.Stamp = api.Stamp{Seq: 1 + r.IntN(1<<r.IntN(41)), Client: 1 + r.IntN(4)}
	}
	if len(m.Matrix) > 0 {
		rows, columns := 1+r.IntN(25), 1+r.IntN(7)
		m.Matrix, m.Ys = shape(rows, columns, api.Nat{}), make([]api.Nat, rows)
		for k := range m.Matrix {
			m.Ys[k] = natural()
			for j := range m.Matrix[k] {
				m.Matrix[k][j] = natural()
			}
		}
	}
	return m
}

// Wr3: what is put is taken as it was, and messages that are not the same have not the same bytes.
func TestRoundTrip(t *testing.T) {
	r := rand.New(rand.NewPCG(18, 1))
	known := map[string]api.Msg{}
	for range 5000 {
		m := drawMsg(r)
		s, e := checkPut(t, m)
		if e != api.OK {
			t.Fatalf("Put(%x) = %d", m, e)
		}
		if other, ok := known[s]; ok && !sameMsg(other, m) {
			t.Fatalf("%x are the bytes of %x and of %x", s, m, other)
		}
		known[s] = m
		bytes := []byte(s)
		bytes[r.IntN(len(bytes))] ^= 1 << r.IntN(8)
		checkTake(t, string(bytes))
	}
}

// Wr2: bytes by chance, and bytes that begin like a message's.
func TestTakeRandom(t *testing.T) {
	r := rand.New(rand.NewPCG(18, 2))
	for range 20000 {
		m := drawMsg(r)
		s := wantBytes(m)
		bytes := []byte(s[:r.IntN(len(s)+1)])
		for range r.IntN(40) {
			bytes = append(bytes, byte(r.IntN(1+r.IntN(256))))
		}
		checkTake(t, string(bytes))
	}
}

// Wr1, R2: a call that was given up leaves nothing behind: the next one answers as ever, and both ways may go on at once.
func TestAfterGivingUp(t *testing.T) {
	m := right()[4]
	s := wantBytes(m)
	done := make(chan bool)
	for range 8 {
		go func() {
			same := true
			for range 200 {
				_, first := wire.Take(s[:len(s)-1])
				_, second := wire.Put(api.Msg{})
				back, third := wire.Take(s)
				same = same && first == api.ErrBad && second == api.ErrArg && third == api.OK && sameMsg(back, m) && wire.Check(m) == api.OK
			}
			done <- same
		}()
	}
	for range 8 {
		if !<-done {
			t.Error("answers hang on others")
		}
	}
}

// R3: what lies in the room behind a list's end is neither read nor changed.
func TestRoomBehind(t *testing.T) {
	for _, m := range []api.Msg{right()[4], right()[5], right()[9]} {
		want, _ := wire.Put(m)
		roomy := m
		roomy.Ys = append(slices.Clone(m.Ys), all, all)[:len(m.Ys)]
		roomy.Matrix = append(slices.Clone(m.Matrix), []api.Nat{all}, nil)[:len(m.Matrix)]
		for k := range roomy.Matrix {
			roomy.Matrix[k] = append(slices.Clone(m.Matrix[k]), all)[:len(m.Matrix[k])]
		}
		if s, e := checkPut(t, roomy); s != want || e != api.OK {
			t.Errorf("%x, %d, not %x", s, e, want)
		}
		if ys := roomy.Ys[:len(m.Ys)+2]; ys[len(m.Ys)] != all || ys[len(m.Ys)+1] != all {
			t.Errorf("%x", ys)
		}
		if rows := roomy.Matrix[:len(m.Matrix)+2]; !slices.Equal(rows[len(m.Matrix)], []api.Nat{all}) || rows[len(m.Matrix)+1] != nil {
			t.Errorf("%x", rows)
		}
		for _, row := range roomy.Matrix {
			if row[:len(row)+1][len(row)] != all {
				t.Errorf("%x", row[:len(row)+1])
			}
		}
	}
	for _, m := range right() {
		bare := len(m.Matrix) == 0
		if m.Ys = append(m.Ys, all)[:len(m.Ys)]; bare {
			m.Matrix = make(api.Matrix, 3)[:0]
		}
		if _, e := checkPut(t, m); e != api.OK {
			t.Errorf("%x: %d", m, e)
		}
	}
}

// fill overwrites a list, and the room behind it.
func fill[T any](l []T, with T) {
	l = l[:cap(l)]
	for k := range l {
		l[k] = with
	}
}

// R3: an answer's lists are new memory: none shares any with another one, or with the next answer.
func TestNewMemory(t *testing.T) {
	m := api.Msg{Kind: api.MsgMend, Op: 6, Key: "k", Stamp: stamp, Matrix: shape(5, 3, api.Nat{7}), Ys: slices.Repeat([]api.Nat{{9}}, 5)}
	s := wantBytes(m)
	for k := range m.Matrix {
		taken, _ := wire.Take(s)
		again, _ := wire.Take(s)
		fill(taken.Matrix[k], all)
		want := copyMsg(m)
		fill(want.Matrix[k], all)
		if !sameMsg(taken, want) || !sameMsg(again, m) {
			t.Fatalf("%x and %x", taken, again)
		}
	}
	taken, _ := wire.Take(s)
	fill(taken.Ys, all)
	if !slices.EqualFunc(taken.Matrix, m.Matrix, slices.Equal) {
		t.Errorf("%x", taken.Matrix)
	}
	fill(taken.Matrix, nil)
	if again, e := wire.Take(s); !sameMsg(again, m) || e != api.OK {
		t.Errorf("%x, %d", again, e)
	}
}

// Wr1, Wr2, Wr3: any bytes, and any message that they make.
func FuzzWire(f *testing.F) {
	for _, m := range right() {
		f.Add(wantBytes(m), m.Kind, m.Op, m.Key, m.Stamp.Seq, m.Stamp.Client, m.Digest, uint8(len(m.Matrix)), uint8(2), uint8(len(m.Ys)))
	}
	f.Add("", api.MsgPropose, 1<<20, "12345678", 1<<40, 4, "", uint8(25), uint8(7), uint8(25))
	f.Fuzz(func(t *testing.T, s string, kind, op int, key string, seq, client int, digest string, rows, columns, shares uint8) {
		checkTake(t, s)
		natural := func(k int) api.Nat {
			if s == "" {
				return api.Nat{}
			}
			return nat.Down(api.Nat{0, 0, 0, uint64(s[k%len(s)]) << 56}, int(s[(k+1)%len(s)]))
		}
		m := api.Msg{Kind: kind, Op: op, Key: key, Stamp: api.Stamp{Seq: seq, Client: client}, Digest: digest}
		m.Matrix = shape(int(rows%28), int(columns%10), natural(0))
		for k := range m.Matrix {
			if len(m.Matrix[k]) > 0 {
				m.Matrix[k][0] = natural(k)
			}
		}
		for k := range int(shares % 28) {
			m.Ys = append(m.Ys, natural(3*k))
		}
		checkPut(t, m)
		if len(key) <= 8 && wire.Key(key) != (key != "") {
			t.Fatalf("Key(%x)", key)
		}
	})
}
