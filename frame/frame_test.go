package frame_test

import (
	stdhmac "crypto/hmac"
	"crypto/sha256"
	"encoding/hex"
	"math"
	"math/rand/v2"
	"strings"
	"testing"
	"unsafe"

	"sacristy/api"
	"sacristy/frame"
	"sacristy/hmac"
)

const (
	maxBody  = 8192
	tagSize  = 32
	headSize = 34 // bytes ahead of the body
)

var (
	// someEnds are ends: the first and the last ones, and those about the bit of the sign.
	someEnds = []int{1, 2, 3, 7, 8, 11, 127, 128, 129, 254, 255}
	// noEnds are numbers that are none, of which many have the lowest eight bits of an end.
	noEnds = []int{math.MinInt, math.MinInt + 1, math.MinInt + 255, -65535, -257, -256, -255, -254, -128, -127, -2, -1, 0, 256, 257, 258, 511, 512, 513, 65535, 65536, 65537, 1 << 31, 1<<32 + 1, 1<<32 + 255, 1<<62 + 2, math.MaxInt - 1, math.MaxInt}
	// someSizes are of bodies: about the blocks of a digest, and about the greatest one.
	someSizes = []int{0, 1, 2, 31, 32, 33, 34, 53, 54, 55, 61, 62, 63, 64, 65, 127, 128, 1000, maxBody/2 + 1, maxBody - 34, maxBody - 1, maxBody, maxBody + 1, maxBody + 2, maxBody + 34, maxBody + 35, 2 * maxBody, 65536, 65537, 1 << 20}
)

func isEnd(n int) bool { return 0 < n && n < 256 }

// sumOf is a tag under a key, told by the library, that the program itself may not take.
func sumOf(key, s string) string {
	h := stdhmac.New(sha256.New, []byte(key))
	h.Write([]byte(s))
	return string(h.Sum(nil))
}

// wantTag is a frame's tag by the chapter's words, of numbers that need not be ends.
func wantTag(secret string, from, to int, body string) string {
	ends := string([]byte{byte(from), byte(to)})
	return sumOf(sumOf(secret, "key"+ends), ends+body)
}

// rightFrame has the tag that its parts would have, whether they may be or not.
func rightFrame(secret string, from, to int, body string) api.Frame {
	return api.Frame{From: from, To: to, Body: body, Tag: wantTag(secret, from, to, body)}
}

func wantSeal(secret string, from, to int, body string) (api.Frame, api.Errno) {
	if !isEnd(from) || !isEnd(to) || len(body) > maxBody {
		return api.Frame{}, 1
	}
	return rightFrame(secret, from, to, body), 0
}

func wantOpens(secret string, f api.Frame) bool {
	return isEnd(f.From) && isEnd(f.To) && len(f.Body) <= maxBody && f.Tag == wantTag(secret, f.From, f.To, f.Body)
}

func wantBytes(f api.Frame) (string, api.Errno) {
	if !isEnd(f.From) || !isEnd(f.To) || len(f.Tag) != tagSize || len(f.Body) > maxBody {
		return "", 1
	}
	return string([]byte{byte(f.From), byte(f.To)}) + f.Tag + f.Body, 0
}

func wantTake(s string) (api.Frame, api.Errno) {
	if len(s) < headSize || len(s)-headSize > maxBody || s[0] == 0 || s[1] == 0 {
		return api.Frame{}, 4
	}
	return api.Frame{From: int(s[0]), To: int(s[1]), Tag: s[2:headSize], Body: s[headSize:]}, 0
}

// checkSeal tells whether a frame was sealed; if so, it opens, and its bytes lead there and back.
func checkSeal(t *testing.T, secret string, from, to int, body string) bool {
	t.Helper()
	got, e := frame.Seal(secret, from, to, body)
	want, wantErr := wantSeal(secret, from, to, body)
	if got != want || e != wantErr {
		t.Errorf("Seal(%.20q, %d, %d, %d bytes %.20q): %.200x, %d", secret, from, to, len(body), body, got, e)
	}
	if e != api.OK {
		return false
	}
	checkOpens(t, secret, got)
	checkBytes(t, got)
	return true
}

func checkOpens(t *testing.T, secret string, f api.Frame) bool {
	t.Helper()
	got := frame.Opens(secret, f)
	if got != wantOpens(secret, f) {
		t.Errorf("Opens(%.20q, %d to %d, %d bytes %.20q, tag %x) is %v", secret, f.From, f.To, len(f.Body), f.Body, f.Tag, got)
	}
	return got
}

// checkBytes tells whether a frame has bytes; if so, they lead back.
func checkBytes(t *testing.T, f api.Frame) bool {
	t.Helper()
	got, e := frame.Bytes(f)
	want, wantErr := wantBytes(f)
	if got != want || e != wantErr {
		t.Errorf("Bytes(%d to %d, %d bytes %.20q, tag %x): %.200x, %d", f.From, f.To, len(f.Body), f.Body, f.Tag, got, e)
	}
	if e != api.OK {
		return false
	}
	if back, e := frame.Take(got); back != f || e != api.OK {
		t.Errorf("Take(%.200x) is %.200x, %d, and not what its bytes are of", got, back, e)
	}
	return true
}

// checkTake tells whether bytes are a frame's; if so, that has them.
func checkTake(t *testing.T, s string) bool {
	t.Helper()
	got, e := frame.Take(s)
	want, wantErr := wantTake(s)
	if got != want || e != wantErr {
		t.Errorf("Take(%d bytes %.200x): %.200x, %d", len(s), s, got, e)
	}
	if e != api.OK {
		return false
	}
	if again, e := frame.Bytes(got); again != s || e != api.OK {
		t.Errorf("Bytes of what %.200x is: %.200x, %d", s, again, e)
	}
	return true
}

// newDrawer gives numbers of a seed that stays the same.
func newDrawer() *rand.Rand { return rand.New(rand.NewPCG(19, 32)) }

func drawText(r *rand.Rand, size int) string {
	b := make([]byte, size)
	for k := range b {
		b[k] = byte(r.UintN(256))
	}
	return string(b)
}

func unhex(t *testing.T, digits string) string {
	t.Helper()
	b, err := hex.DecodeString(digits)
	if err != nil {
		t.Fatal(err)
	}
	return string(b)
}

// Fr1, Fr2: frames whose tags were told by another program.
func TestByHeart(t *testing.T) {
	for _, c := range []struct {
		secret   string
		from, to int
		body     string
		tag      string
	}{
		{"secret", 1, 2, "hello", "c5ab5b5c998fb3d7e4e6c49e3c731e6eadeb17c8628889a5a6611ead140183eb"},
		{"secret", 2, 1, "hello", "c8ae868b8153c68489d0c96bc93ee18dc1f671d0df15c7e909dfac778255ae34"},
		{"", 1, 1, "", "30795bbf793e543caa9487b8995aae447be6ba3098a7a016cf7769650443dd27"},
		{strings.Repeat("s", 65), 255, 128, "\x00", "f7e04c67af91b87ea2b592b219a9d810828b92d39ac05f806af8c06bfe2a8b0f"},
		{"secret", 7, 8, strings.Repeat("x", 8192), "27cd101ea119b8fe8df9e1aa0dbba3d676cc6a348a22a3e46d61fa8d24fe8efc"},
	} {
		want := api.Frame{From: c.from, To: c.to, Body: c.body, Tag: unhex(t, c.tag)}
		f, e := frame.Seal(c.secret, c.from, c.to, c.body)
		if f != want || e != api.OK || !frame.Opens(c.secret, want) {
			t.Errorf("%d to %d: %.200x, %d", c.from, c.to, f, e)
		}
		s, e := frame.Bytes(want)
		if s != string([]byte{byte(c.from), byte(c.to)})+want.Tag+c.body || e != api.OK {
			t.Errorf("%d to %d: %.200x, %d", c.from, c.to, s, e)
		}
		if back, e := frame.Take(s); back != want || e != api.OK {
			t.Errorf("%d to %d: %.200x, %d", c.from, c.to, back, e)
		}
	}
}

// Fr1: the tag is layer 6's Sum, under its Key of the two ends.
func TestTagOfLayerSix(t *testing.T) {
	f, e := frame.Seal("secret", 3, 200, "body")
	if e != api.OK || f.Tag != hmac.Sum(hmac.Key("secret", 3, 200), "\x03\xc8body") {
		t.Errorf("%x, %d", f, e)
	}
}

// Fr1, Fr2, Fr3: each two ends, the same one twice with them; no two lead to one tag.
func TestAllEnds(t *testing.T) {
	seen := map[string]bool{}
	for from := 1; from <= 255; from++ {
		for to := 1; to <= 255; to++ {
			f, e := frame.Seal("secret", from, to, "body")
			if f != rightFrame("secret", from, to, "body") || e != api.OK || !frame.Opens("secret", f) || seen[f.Tag] {
				t.Fatalf("%d to %d: %x, %d", from, to, f, e)
			}
			seen[f.Tag] = true
			if !checkBytes(t, f) {
				t.Fatalf("%d to %d has no bytes", from, to)
			}
		}
	}
}

// Fr1, Fr2: what is no end is refused on either side, and is not cut down to its lowest bits.
func TestNoEnds(t *testing.T) {
	all := append(append([]int{}, noEnds...), someEnds...)
	for _, from := range all {
		for _, to := range all {
			may := isEnd(from) && isEnd(to)
			if checkSeal(t, "secret", from, to, "body") != may {
				t.Errorf("Seal from %d to %d", from, to)
			}
			f := rightFrame("secret", from, to, "body")
			if checkOpens(t, "secret", f) != may || checkBytes(t, f) != may {
				t.Errorf("Opens, Bytes from %d to %d", from, to)
			}
		}
	}
	for n := -600; n <= 600; n++ {
		for _, ends := range [][2]int{{n, 5}, {5, n}, {n, n}} {
			f := rightFrame("s", ends[0], ends[1], "")
			if checkSeal(t, "s", ends[0], ends[1], "") != isEnd(n) || checkOpens(t, "s", f) != isEnd(n) || checkBytes(t, f) != isEnd(n) {
				t.Errorf("%d", n)
			}
		}
	}
}

// Fr1, Fr2, Fr3: bodies of many sizes: one byte more than the greatest is too much, even if all else is right.
func TestBodies(t *testing.T) {
	r := newDrawer()
	for _, size := range someSizes {
		for _, body := range []string{drawText(r, size), strings.Repeat("\x00", size), strings.Repeat("\xff", size)} {
			may := size <= maxBody
			f := rightFrame("secret", 9, 4, body)
			if checkSeal(t, "secret", 9, 4, body) != may || checkOpens(t, "secret", f) != may || checkBytes(t, f) != may {
				t.Errorf("a body of %d bytes", size)
			}
			if checkTake(t, "\x09\x04"+f.Tag+body) != may {
				t.Errorf("Take of a body of %d bytes", size)
			}
		}
	}
	for size := range 300 {
		checkSeal(t, "secret", 1, 2, drawText(r, size))
	}
}

// Fr1, R2: where much is wrong at once, it is refused, and nothing else is told.
func TestAllWrong(t *testing.T) {
	long := strings.Repeat("x", maxBody+1)
	for _, from := range []int{-1, 0, 1, 255, 256} {
		for _, to := range []int{-1, 0, 1, 255, 256} {
			for _, body := range []string{"", "b", long} {
				checkSeal(t, "secret", from, to, body)
				for _, tag := range []string{"", "tag", wantTag("secret", from, to, body), long} {
					f := api.Frame{From: from, To: to, Body: body, Tag: tag}
					checkOpens(t, "secret", f)
					checkBytes(t, f)
				}
			}
		}
	}
}

// Fr1: secrets of any number of bytes; each leads to tags of its own.
func TestSecrets(t *testing.T) {
	r := newDrawer()
	was := "other"
	for size := range 200 {
		secret := drawText(r, size)
		checkSeal(t, secret, 1+r.IntN(255), 1+r.IntN(255), drawText(r, r.IntN(100)))
		f := rightFrame(secret, 1, 2, "body")
		if !checkOpens(t, secret, f) || checkOpens(t, was, f) || checkOpens(t, secret+"x", f) || checkOpens(t, "x"+secret, f) {
			t.Errorf("a secret of %d bytes", size)
		}
		was = secret
	}
	checkSeal(t, drawText(r, 1<<20), 1, 2, "body")
}

// Fr1: a frame of which any one bit is another one, or that is turned to another end, or back, does not open.
func TestOpensTurned(t *testing.T) {
	f, _ := frame.Seal("secret", 1, 2, "hello there")
	no := func(what string, f api.Frame) {
		t.Helper()
		if checkOpens(t, "secret", f) {
			t.Errorf("%s: %x", what, f)
		}
	}
	flip := func(s string, bit int) string {
		b := []byte(s)
		b[bit/8] ^= 1 << (bit % 8)
		return string(b)
	}
	for n := -1; n <= 1000; n++ {
		if n != 2 {
			no("to", api.Frame{From: 1, To: n, Body: f.Body, Tag: f.Tag})
		}
		if n != 1 {
			no("from", api.Frame{From: n, To: 2, Body: f.Body, Tag: f.Tag})
		}
	}
	no("back", api.Frame{From: 2, To: 1, Body: f.Body, Tag: f.Tag})
	for bit := range 8 * len(f.Tag) {
		no("tag", api.Frame{From: 1, To: 2, Body: f.Body, Tag: flip(f.Tag, bit)})
	}
	for bit := range 8 * len(f.Body) {
		no("body", api.Frame{From: 1, To: 2, Body: flip(f.Body, bit), Tag: f.Tag})
	}
	for bit := range 63 {
		no("from", api.Frame{From: 1 ^ 1<<bit, To: 2, Body: f.Body, Tag: f.Tag})
		no("to", api.Frame{From: 1, To: 2 ^ 1<<bit, Body: f.Body, Tag: f.Tag})
	}
}

// Fr1: a tag that is cut, or goes on, is another one; so is a body.
func TestOpensCut(t *testing.T) {
	f, _ := frame.Seal("secret", 1, 2, "hello\x00")
	for cut := range tagSize {
		for _, tag := range []string{f.Tag[:cut], f.Tag[cut+1:], f.Tag[:cut] + f.Tag[cut+1:], f.Tag + f.Tag[:cut+1], f.Tag + strings.Repeat("\x00", cut+1), strings.Repeat("\x00", cut+1) + f.Tag} {
			x := f
			if x.Tag = tag; checkOpens(t, "secret", x) {
				t.Errorf("tag %x", tag)
			}
			checkBytes(t, x)
		}
	}
	for _, body := range []string{"", "hello", "ello\x00", "hello\x00\x00", "\x00hello\x00", "\x01\x02hello\x00"} {
		x := f
		if x.Body = body; checkOpens(t, "secret", x) {
			t.Errorf("body %q", body)
		}
	}
}

// Fr1: tags that are nearly made as they should be are wrong.
func TestOpensNearly(t *testing.T) {
	ends, body := "\x01\x02", "hello"
	key := sumOf("secret", "key"+ends)
	for k, tag := range []string{
		"",
		strings.Repeat("\x00", tagSize),
		sumOf(key, body),
		sumOf(key, ends),
		sumOf(key, body+ends),
		sumOf(key, "\x02\x01"+body),
		sumOf("secret", ends+body),
		sumOf(sumOf("secret", ends), ends+body),
		sumOf(sumOf("secret", "key\x02\x01"), ends+body),
		sumOf("", ends+body),
		hex.EncodeToString([]byte(sumOf(key, ends+body))),
	} {
		f := api.Frame{From: 1, To: 2, Body: body, Tag: tag}
		if checkOpens(t, "secret", f) {
			t.Errorf("%d: %x opens", k, tag)
		}
	}
}

// Fr1: the frame that is zero does not open, though what is refused is zero too; nor do those of which some parts are.
func TestOpensZero(t *testing.T) {
	f, _ := frame.Seal("", 1, 1, "")
	for _, secret := range []string{"", "secret", strings.Repeat("\x00", 64)} {
		for _, x := range []api.Frame{{}, {Tag: f.Tag}, {From: 1, Tag: f.Tag}, {To: 1, Tag: f.Tag}, {From: 1, To: 1}, {Body: "b"}, {From: 256, To: 256}, rightFrame(secret, 0, 0, "")} {
			if checkOpens(t, secret, x) {
				t.Errorf("%x opens under %q", x, secret)
			}
		}
	}
}

// Fr2: bytes do not ask whether a tag is right, only of how many bytes it is.
func TestBytesTags(t *testing.T) {
	r := newDrawer()
	for size := range 100 {
		for _, tag := range []string{drawText(r, size), strings.Repeat("\x00", size), strings.Repeat("\xff", size)} {
			for _, body := range []string{"", "b", drawText(r, 50), strings.Repeat("x", maxBody)} {
				if checkBytes(t, api.Frame{From: 1, To: 255, Body: body, Tag: tag}) != (size == tagSize) {
					t.Errorf("a tag of %d bytes", size)
				}
			}
		}
	}
	for _, size := range []int{256, 256 + tagSize, 65536 + tagSize, 1 << 20} {
		checkBytes(t, api.Frame{From: 1, To: 2, Tag: drawText(r, size)})
	}
	checkBytes(t, api.Frame{})
}

// Fr2: bytes of each first two: those with an end 0 are no frame's.
func TestTakeEnds(t *testing.T) {
	rest := strings.Repeat("t", tagSize) + "body"
	for from := range 256 {
		for to := range 256 {
			if checkTake(t, string([]byte{byte(from), byte(to)})+rest) != (from != 0 && to != 0) {
				t.Fatalf("%d to %d", from, to)
			}
		}
	}
}

// Fr2: bytes that are cut ahead of the body are no frame's; those that are cut behind are one with a shorter body.
func TestTakeCut(t *testing.T) {
	r := newDrawer()
	s, e := frame.Bytes(rightFrame("secret", 11, 7, drawText(r, 60)))
	if e != api.OK {
		t.Fatal(e)
	}
	for cut := range len(s) + 1 {
		if checkTake(t, s[:cut]) != (cut >= headSize) {
			t.Errorf("%d bytes", cut)
		}
	}
	for size := range 100 {
		if checkTake(t, strings.Repeat("\x00", size)) {
			t.Errorf("%d bytes 0", size)
		}
		if checkTake(t, strings.Repeat("\xff", size)) != (size >= headSize) {
			t.Errorf("%d bytes 255", size)
		}
		checkTake(t, drawText(r, size))
	}
}

// Fr2: bytes of the longest frame, and one more, or many more.
func TestTakeLong(t *testing.T) {
	r := newDrawer()
	for _, more := range []int{-headSize, -2, -1, 0, 1, 2, headSize, maxBody, 65536, 1 << 20} {
		s := "\x01\x02" + drawText(r, tagSize+maxBody+more)
		if checkTake(t, s) != (more <= 0) {
			t.Errorf("%d bytes", len(s))
		}
	}
}

// Fr1, Fr2, Fr3: frames that are drawn, and bytes that are nearly theirs.
func TestDrawn(t *testing.T) {
	r := newDrawer()
	for range 3000 {
		secret, body := drawText(r, r.IntN(80)), drawText(r, r.IntN(200))
		from, to := 1+r.IntN(255), 1+r.IntN(255)
		if !checkSeal(t, secret, from, to, body) {
			t.Fatalf("Seal(%q, %d, %d, %q)", secret, from, to, body)
		}
		s := []byte{byte(from), byte(to)}
		s = append(append(s, wantTag(secret, from, to, body)...), body...)
		s[r.IntN(len(s))] = byte(r.UintN(256))
		checkTake(t, string(s))
		if f, e := frame.Take(string(s)); e == api.OK {
			checkOpens(t, secret, f)
		}
		checkTake(t, string(s[:r.IntN(len(s))]))
		checkSeal(t, secret, from-r.IntN(256), to+r.IntN(256), body)
	}
}

// Fr3: a frame that came as bytes opens as the one that was sealed does.
func TestOpensBehindBytes(t *testing.T) {
	for _, size := range []int{0, 1, 100, maxBody} {
		f, _ := frame.Seal("secret", 4, 5, strings.Repeat("b", size))
		s, _ := frame.Bytes(f)
		back, e := frame.Take(s)
		if e != api.OK || !frame.Opens("secret", back) || frame.Opens("secreT", back) {
			t.Errorf("a body of %d bytes: %d", size, e)
		}
	}
}

// within tells whether a text lies in the memory of another one.
func within(s, of string) bool {
	at := uintptr(unsafe.Pointer(unsafe.StringData(s)))
	begin := uintptr(unsafe.Pointer(unsafe.StringData(of)))
	return at >= begin && at < begin+uintptr(len(of))
}

// R3: an answer is new memory: it shares none with what was handed in.
func TestNewMemory(t *testing.T) {
	body := strings.Repeat("b", 100)
	f, _ := frame.Seal("secret", 1, 2, body)
	s, _ := frame.Bytes(f)
	back, _ := frame.Take(s)
	if within(f.Body, body) || within(s, f.Body) || within(back.Body, s) || within(back.Tag, s) {
		t.Error("an answer is a piece of an argument")
	}
}

// R4: what is answered hangs on no other call, whether ahead or at once.
func TestAtOnce(t *testing.T) {
	f := rightFrame("secret", 1, 2, "body")
	s, _ := wantBytes(f)
	done := make(chan bool)
	for range 8 {
		go func() {
			same := true
			for range 200 {
				_, refused := frame.Seal("secret", 0, 2, "body")
				_, bad := frame.Take(s[:headSize-1])
				sealed, e := frame.Seal("secret", 1, 2, "body")
				back, g := frame.Take(s)
				same = same && refused == api.ErrArg && bad == api.ErrBad && sealed == f && e == api.OK && back == f && g == api.OK
				same = same && frame.Opens("secret", f) && !frame.Opens("other", f)
			}
			done <- same
		}()
	}
	for range 8 {
		if !<-done {
			t.Error("answers hang on others")
		}
	}
}

// Fr1, Fr2, Fr3: anything.
func FuzzFrame(f *testing.F) {
	f.Add("secret", 1, 2, "hello", "tag")
	f.Add("", 0, 256, "", strings.Repeat("t", tagSize))
	f.Add(strings.Repeat("s", 65), 255, 255, strings.Repeat("x", maxBody+1), "\x01\x02"+strings.Repeat("t", tagSize))
	f.Fuzz(func(t *testing.T, secret string, from, to int, body, tag string) {
		checkSeal(t, secret, from, to, body)
		// Most ints are no ends: the same once more, with ends.
		low, high := int(uint8(from)), int(uint8(to))
		checkSeal(t, secret, low, high, body)
		for _, x := range []api.Frame{{From: from, To: to, Body: body, Tag: tag}, {From: low, To: high, Body: body, Tag: tag}, rightFrame(secret, from, to, body), rightFrame(tag, low, high, body)} {
			checkOpens(t, secret, x)
			checkBytes(t, x)
		}
		checkTake(t, body)
		checkTake(t, tag+body)
		checkTake(t, string([]byte{byte(from), byte(to)})+tag+body)
	})
}
