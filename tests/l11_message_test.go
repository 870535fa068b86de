package tests

import (
	"bytes"
	"math"
	"math/rand"
	"slices"
	"testing"

	"loop.example/trunk/impl"
)

// msgKinds are the kinds of messages as the document lists them, from 1 on.
var msgKinds = []int{
	impl.MsgUp, impl.MsgUpAck, impl.MsgDown, impl.MsgDownAck, impl.MsgActive, impl.MsgActiveAck, impl.MsgIdle, impl.MsgIdleAck,
	impl.MsgState, impl.MsgData, impl.MsgOff, impl.MsgOn, impl.MsgJam, impl.MsgAsk, impl.MsgBad,
}

// What kinds have, by number.
var (
	msgRanged   = []int{5, 6, 7, 8, 9, 10}
	msgNumbered = []int{9, 10, 11, 12, 13, 14, 15}
	msgWithData = 10
)

// msgField is a number of a message, and what it may be in the kinds that have it.
type msgField struct {
	name  string
	in    reach
	has   func(kind int) bool
	place func(w *impl.MsgWord) *int
}

var msgFields = []msgField{
	{"Ctx", reach{1, 9}, func(kind int) bool { return slices.Contains(msgRanged, kind) }, func(w *impl.MsgWord) *int { return &w.Ctx }},
	{"Num", reach{0, 1000000}, func(kind int) bool { return slices.Contains(msgNumbered, kind) }, func(w *impl.MsgWord) *int { return &w.Num }},
	{"Dest", reach{0, 999}, func(kind int) bool { return kind == msgWithData }, func(w *impl.MsgWord) *int { return &w.Dest }},
	{"Sls", reach{0, 15}, func(kind int) bool { return kind == msgWithData }, func(w *impl.MsgWord) *int { return &w.Sls }},
}

func slowMsgOk(w impl.MsgWord) bool {
	if w.Kind < 1 || w.Kind > 15 {
		return false
	}
	for _, f := range msgFields {
		in := reach{0, 0}
		if f.has(w.Kind) {
			in = f.in
		}
		if !in.has(*f.place(&w)) {
			return false
		}
	}
	if w.Kind == msgWithData {
		return len(w.Body) >= 1 && len(w.Body) <= 12
	}
	return len(w.Body) == 0
}

// rawTlv is a kind and a body as chapter 2 writes them.
func rawTlv(kind int, body []byte) []byte {
	out := slices.Concat(bigFirst(kind, 2), bigFirst(4+len(body), 2), body)
	for len(out)%4 != 0 {
		out = append(out, 0)
	}
	return out
}

// rawMsg is a message of a kind with these parts, whether it has them or not.
func rawMsg(kind int, parts ...[]byte) []byte {
	behind := slices.Concat(parts...)
	return slices.Concat([]byte{1, 0, byte(kind), 0}, bigFirst(8+len(behind), 2), []byte{0, 0}, behind)
}

func rawCtx(n int) []byte { return rawTlv(6, bigFirst(n, 4)) }
func rawNum(n int) []byte { return rawTlv(7, bigFirst(n, 4)) }
func rawTarget(dest, sls int) []byte {
	return rawTlv(8, slices.Concat(bigFirst(dest, 2), bigFirst(sls, 2)))
}
func rawBody(b []byte) []byte { return rawTlv(9, b) }

// slowMsg is a message that is ok, in bytes.
func slowMsg(w impl.MsgWord) []byte {
	var parts [][]byte
	if slices.Contains(msgRanged, w.Kind) {
		parts = append(parts, rawCtx(w.Ctx))
	}
	if slices.Contains(msgNumbered, w.Kind) {
		parts = append(parts, rawNum(w.Num))
	}
	if w.Kind == msgWithData {
		parts = append(parts, rawTarget(w.Dest, w.Sls), rawBody(w.Body))
	}
	return rawMsg(w.Kind, parts...)
}

// slowMsgRead reads what was told of bytes, code by code.
func slowMsgRead(b []byte) (impl.MsgWord, int) {
	if len(b) < 8 {
		return impl.MsgWord{}, 1
	}
	if b[0] != 1 || b[1] != 0 || b[3] != 0 || int(b[4])*256+int(b[5]) != len(b) || b[6] != 0 || b[7] != 0 {
		return impl.MsgWord{}, 1
	}
	list, code := impl.OctRead(b[8:])
	if code != 0 {
		return impl.MsgWord{}, 2
	}
	w := impl.MsgWord{Kind: int(b[2])}
	var want []int
	if slices.Contains(msgRanged, w.Kind) {
		want = append(want, 6)
	}
	if slices.Contains(msgNumbered, w.Kind) {
		want = append(want, 7)
	}
	if w.Kind == msgWithData {
		want = append(want, 8, 9)
	}
	if w.Kind < 1 || w.Kind > 15 || len(list) != len(want) {
		return impl.MsgWord{}, 3
	}
	for i, tlv := range list {
		if tlv.Kind != want[i] || tlv.Kind != 9 && len(tlv.Body) != 4 {
			return impl.MsgWord{}, 3
		}
		n := 0
		for _, octet := range tlv.Body[:min(4, len(tlv.Body))] {
			n = n*256 + int(octet)
		}
		switch tlv.Kind {
		case 6:
			w.Ctx = n
		case 7:
			w.Num = n
		case 8:
			w.Dest, w.Sls = n/65536, n%65536
		case 9:
			w.Body = tlv.Body
		}
	}
	if !slowMsgOk(w) {
		return impl.MsgWord{}, 4
	}
	return w, 0
}

// msgOf is a message of a kind, with all that it has, and nothing else.
func msgOf(kind int) impl.MsgWord {
	w := impl.MsgWord{Kind: kind}
	for i, f := range msgFields {
		if f.has(kind) {
			*f.place(&w) = f.in.from + 3 + i
		}
	}
	if kind == msgWithData {
		w.Body = []byte("body")
	}
	return w
}

// goodMsgs are messages of each kind, with each number at its bounds and between them, and each size of a body.
func goodMsgs() []impl.MsgWord {
	var out []impl.MsgWord
	for kind := 1; kind <= 15; kind++ {
		out = append(out, msgOf(kind))
		for _, f := range msgFields {
			if !f.has(kind) {
				continue
			}
			for _, n := range []int{f.in.from, f.in.from + 1, (f.in.from + f.in.to) / 2, f.in.to - 1, f.in.to} {
				w := msgOf(kind)
				*f.place(&w) = n
				out = append(out, w)
			}
		}
	}
	for n := 1; n <= impl.MsgMaxBody; n++ {
		for _, body := range [][]byte{counted(n), make([]byte, n), bytes.Repeat([]byte{255}, n)} {
			w := msgOf(msgWithData)
			w.Body = body
			out = append(out, w)
		}
	}
	least := impl.MsgWord{Kind: msgWithData, Ctx: 1, Body: []byte{0}}
	most := impl.MsgWord{Kind: msgWithData, Ctx: 9, Num: 1000000, Dest: 999, Sls: 15, Body: counted(12)}
	return append(out, least, most)
}

// badMsgs are not ok, each in one way.
func badMsgs() []impl.MsgWord {
	var out []impl.MsgWord
	for kind := 1; kind <= 15; kind++ {
		for _, f := range msgFields {
			in := reach{0, 0}
			if f.has(kind) {
				in = f.in
			}
			for _, n := range append([]int{in.from - 1, in.to + 1, in.from + 256, in.from + 65536, in.from + 4294967296}, wide...) {
				if !in.has(n) {
					w := msgOf(kind)
					*f.place(&w) = n
					out = append(out, w)
				}
			}
		}
		sizes := []int{1, 4, 12, 13, 100}
		if kind == msgWithData {
			sizes = []int{0, 13, 64, 65, 70000}
		}
		for _, size := range sizes {
			w := msgOf(kind)
			w.Body = make([]byte, size)
			out = append(out, w)
		}
	}
	for _, kind := range append([]int{-1, 0, 16, 17, 255, 256, 257, 266, 65537, -255, -246}, wide...) {
		if kind < 1 || kind > 15 {
			for like := 1; like <= 15; like++ {
				w := msgOf(like)
				w.Kind = kind
				out = append(out, w)
			}
			out = append(out, impl.MsgWord{Kind: kind})
		}
	}
	return out
}

func TestMsgKindsAndLimits(t *testing.T) {
	for i, kind := range msgKinds {
		if kind != i+1 {
			t.Errorf("kind %d is %d", i+1, kind)
		}
	}
	limits := []int{impl.MsgMaxCtx, impl.MsgMaxNum, impl.MsgMaxDest, impl.MsgMaxSls, impl.MsgMaxBody}
	if !slices.Equal(limits, []int{9, 1000000, 999, 15, 12}) {
		t.Errorf("%v", limits)
	}
}

func TestMsgOkOfMessagesThatAre(t *testing.T) {
	for _, w := range goodMsgs() {
		if !slowMsgOk(w) || !impl.MsgOk(w) {
			t.Errorf("%v is not ok", w)
		}
	}
	// An empty body is none.
	for kind := 1; kind <= 15; kind++ {
		w := msgOf(kind)
		if kind != msgWithData {
			w.Body = []byte{}
			if !impl.MsgOk(w) {
				t.Errorf("%v is not ok with an empty body", w)
			}
		}
	}
}

func TestMsgRefusesMessagesThatAreNotOk(t *testing.T) {
	for _, w := range badMsgs() {
		if slowMsgOk(w) || impl.MsgOk(w) {
			t.Errorf("%v is ok", w)
		}
		if got := impl.MsgWrite(w); len(got) != 0 {
			t.Errorf("%v is written: %v", w, got)
		}
	}
}

// What each kind has and has not, told by hand.
func TestMsgOkOfWhatAKindHas(t *testing.T) {
	body := []byte{7}
	has := map[int]string{
		1: "", 2: "", 3: "", 4: "", 5: "r", 6: "r", 7: "r", 8: "r", 9: "rn", 10: "rnd", 11: "n", 12: "n", 13: "n", 14: "n", 15: "n",
	}
	for kind := -1; kind <= 17; kind++ {
		for set := range 32 {
			w := impl.MsgWord{Kind: kind}
			told := ""
			if set&1 != 0 {
				w.Ctx, told = 1, "r"
			}
			if set&2 != 0 {
				w.Num, told = 1, told+"n"
			}
			if set&4 != 0 {
				w.Dest = 1
			}
			if set&8 != 0 {
				w.Sls = 1
			}
			if set&16 != 0 {
				w.Body, told = body, told+"d"
			}
			// A number, a destination and a choice may be 0; a range and a body must be there.
			want, known := has[kind]
			ok := known && (told == want || want == "n" && told == "" || want == "rn" && told == "r" || want == "rnd" && told == "rd")
			if set&12 != 0 && want != "rnd" {
				ok = false
			}
			if impl.MsgOk(w) != ok {
				t.Errorf("%v is ok: %v", w, !ok)
			}
		}
	}
}

func TestMsgWriteInBytes(t *testing.T) {
	for _, c := range []struct {
		w    impl.MsgWord
		want []byte
	}{
		{impl.MsgWord{Kind: impl.MsgUp}, []byte{1, 0, 1, 0, 0, 8, 0, 0}},
		{impl.MsgWord{Kind: impl.MsgUpAck}, []byte{1, 0, 2, 0, 0, 8, 0, 0}},
		{impl.MsgWord{Kind: impl.MsgDown}, []byte{1, 0, 3, 0, 0, 8, 0, 0}},
		{impl.MsgWord{Kind: impl.MsgDownAck}, []byte{1, 0, 4, 0, 0, 8, 0, 0}},
		{impl.MsgWord{Kind: impl.MsgActive, Ctx: 1}, []byte{1, 0, 5, 0, 0, 16, 0, 0, 0, 6, 0, 8, 0, 0, 0, 1}},
		{impl.MsgWord{Kind: impl.MsgActiveAck, Ctx: 9}, []byte{1, 0, 6, 0, 0, 16, 0, 0, 0, 6, 0, 8, 0, 0, 0, 9}},
		{impl.MsgWord{Kind: impl.MsgIdle, Ctx: 2}, []byte{1, 0, 7, 0, 0, 16, 0, 0, 0, 6, 0, 8, 0, 0, 0, 2}},
		{impl.MsgWord{Kind: impl.MsgIdleAck, Ctx: 3}, []byte{1, 0, 8, 0, 0, 16, 0, 0, 0, 6, 0, 8, 0, 0, 0, 3}},
		{impl.MsgWord{Kind: impl.MsgState, Ctx: 4, Num: 3}, []byte{1, 0, 9, 0, 0, 24, 0, 0, 0, 6, 0, 8, 0, 0, 0, 4, 0, 7, 0, 8, 0, 0, 0, 3}},
		{impl.MsgWord{Kind: impl.MsgOff, Num: 999}, []byte{1, 0, 11, 0, 0, 16, 0, 0, 0, 7, 0, 8, 0, 0, 3, 231}},
		{impl.MsgWord{Kind: impl.MsgOn}, []byte{1, 0, 12, 0, 0, 16, 0, 0, 0, 7, 0, 8, 0, 0, 0, 0}},
		{impl.MsgWord{Kind: impl.MsgJam, Num: 2}, []byte{1, 0, 13, 0, 0, 16, 0, 0, 0, 7, 0, 8, 0, 0, 0, 2}},
		{impl.MsgWord{Kind: impl.MsgAsk, Num: 1000000}, []byte{1, 0, 14, 0, 0, 16, 0, 0, 0, 7, 0, 8, 0, 15, 66, 64}},
		{impl.MsgWord{Kind: impl.MsgBad, Num: 1}, []byte{1, 0, 15, 0, 0, 16, 0, 0, 0, 7, 0, 8, 0, 0, 0, 1}},
		{impl.MsgWord{Kind: impl.MsgData, Ctx: 2, Num: 77, Dest: 300, Sls: 15, Body: []byte{1, 2, 3}}, []byte{
			1, 0, 10, 0, 0, 40, 0, 0, 0, 6, 0, 8, 0, 0, 0, 2, 0, 7, 0, 8, 0, 0, 0, 77, 0, 8, 0, 8, 1, 44, 0, 15, 0, 9, 0, 7, 1, 2, 3, 0}},
		{impl.MsgWord{Kind: impl.MsgData, Ctx: 1, Body: []byte{0}}, []byte{
			1, 0, 10, 0, 0, 40, 0, 0, 0, 6, 0, 8, 0, 0, 0, 1, 0, 7, 0, 8, 0, 0, 0, 0, 0, 8, 0, 8, 0, 0, 0, 0, 0, 9, 0, 5, 0, 0, 0, 0}},
	} {
		if got := impl.MsgWrite(c.w); !bytes.Equal(got, c.want) {
			t.Errorf("%v: %v, want %v", c.w, got, c.want)
		}
		if got, code := impl.MsgRead(c.want); code != 0 || !sameValue(got, c.w) {
			t.Errorf("%v: %v %d, want %v", c.want, got, code, c.w)
		}
	}
}

// P25: MsgRead of MsgWrite is the message, of at most DatMaxUnit bytes.
func TestMsgReadOfMsgWrite(t *testing.T) {
	longest := 0
	for _, w := range goodMsgs() {
		b := impl.MsgWrite(w)
		if want := slowMsg(w); !bytes.Equal(b, want) {
			t.Errorf("%v: %v, want %v", w, b, want)
		}
		longest = max(longest, len(b))
		if got, code := impl.MsgRead(b); code != 0 || !sameValue(got, w) {
			t.Errorf("%v: %v %d", w, got, code)
		}
	}
	if longest != impl.DatMaxUnit {
		t.Errorf("the longest one is of %d bytes", longest)
	}
}

// checkMsgRead holds MsgRead of bytes against the slow reading; what it reads is written as it was (P25).
func checkMsgRead(t *testing.T, b []byte) int {
	t.Helper()
	got, code := impl.MsgRead(b)
	if want, wantCode := slowMsgRead(b); code != wantCode || !sameValue(got, want) {
		t.Fatalf("%v: %v %d, want %v %d", b, got, code, want, wantCode)
	}
	if code == 0 && (!impl.MsgOk(got) || !bytes.Equal(impl.MsgWrite(got), b)) {
		t.Fatalf("%v: read as %v, written as %v", b, got, impl.MsgWrite(got))
	}
	return code
}

// P25: MsgWrite of what MsgRead reads is what was read, whatever bytes come.
func TestMsgWriteOfMsgRead(t *testing.T) {
	var codes [5]int
	for _, w := range goodMsgs() {
		b := slowMsg(w)
		for at := range b {
			for turn := 1; turn < 256; turn++ {
				turned := slices.Clone(b)
				turned[at] ^= byte(turn)
				codes[checkMsgRead(t, turned)]++
			}
		}
		for cut := range b {
			codes[checkMsgRead(t, b[:cut])]++
			// The same, with a head that is right.
			if cut >= 8 {
				codes[checkMsgRead(t, rawMsg(w.Kind, b[8:cut]))]++
			}
		}
		codes[checkMsgRead(t, append(slices.Clone(b), 0))]++
		codes[checkMsgRead(t, append(slices.Clone(b), 0, 9, 0, 4))]++
	}
	chance := rand.New(rand.NewSource(11))
	for range 50000 {
		var parts [][]byte
		for range chance.Intn(6) {
			kind, size := 5+chance.Intn(6), []int{4, 4, 4, 4, 0, 3, 5, 12, 13}[chance.Intn(9)]
			body := make([]byte, size)
			for i := range body {
				body[i] = byte(chance.Intn(3) * chance.Intn(8) * (i / 2))
			}
			parts = append(parts, rawTlv(kind, body))
		}
		codes[checkMsgRead(t, rawMsg(chance.Intn(18), parts...))]++
	}
	for range 50000 {
		parts := [][]byte{rawCtx(chance.Intn(11)), rawNum(chance.Intn(1100000)), rawTarget(chance.Intn(1100), chance.Intn(17)), rawBody(counted(chance.Intn(14)))}
		if chance.Intn(4) == 0 {
			i, j := chance.Intn(4), chance.Intn(4)
			parts[i] = parts[j]
		}
		codes[checkMsgRead(t, rawMsg(msgWithData, parts...))]++
	}
	for code, n := range codes {
		if n < 500 {
			t.Errorf("the code %d is told only %d times", code, n)
		}
	}
}

func TestMsgReadOfFewBytes(t *testing.T) {
	for n := range 8 {
		for _, b := range [][]byte{make([]byte, n), counted(n), {1, 0, 1, 0, 0, byte(n), 0, 0}, {1, 0, 1, 0, 0, 8, 0, 0}} {
			if got, code := impl.MsgRead(b[:n]); code != 1 || !sameValue(got, impl.MsgWord{}) {
				t.Errorf("%v: %v %d", b[:n], got, code)
			}
		}
	}
	if _, code := impl.MsgRead(nil); code != 1 {
		t.Errorf("no bytes: %d", code)
	}
}

func TestMsgReadOfAHeadThatIsTurned(t *testing.T) {
	for kind := 1; kind <= 15; kind++ {
		b := slowMsg(msgOf(kind))
		for _, at := range []int{0, 1, 3, 4, 5, 6, 7} {
			for turn := 1; turn < 256; turn++ {
				turned := slices.Clone(b)
				turned[at] ^= byte(turn)
				if got, code := impl.MsgRead(turned); code != 1 || !sameValue(got, impl.MsgWord{}) {
					t.Errorf("%v: %v %d", turned, got, code)
				}
			}
		}
	}
	// The kind of one without anything: those that have nothing are read, and no others.
	for kind := range 256 {
		want := 3
		if kind >= 1 && kind <= 4 {
			want = 0
		}
		got, code := impl.MsgRead([]byte{1, 0, byte(kind), 0, 0, 8, 0, 0})
		if code != want || code == 0 && !sameValue(got, impl.MsgWord{Kind: kind}) || code != 0 && !sameValue(got, impl.MsgWord{}) {
			t.Errorf("the kind %d: %v %d", kind, got, code)
		}
	}
}

// The number of all bytes is told in two of them: more can never be told.
func TestMsgReadOfTooManyBytes(t *testing.T) {
	for _, w := range []impl.MsgWord{msgOf(1), msgOf(5), msgOf(10)} {
		b := slowMsg(w)
		long := append(slices.Clone(b), make([]byte, 65536)...)
		if got, code := impl.MsgRead(long); code != 1 || !sameValue(got, impl.MsgWord{}) {
			t.Errorf("%v, and 65536 more: %v %d", b, got, code)
		}
	}
	// As many as can be told: the head is right.
	if _, code := impl.MsgRead(slices.Concat([]byte{1, 0, 1, 0, 255, 255, 0, 0}, make([]byte, 65535-8))); code != 2 {
		t.Errorf("65535 bytes: %d", code)
	}
	nine := rawMsg(1, bytes.Repeat([]byte{0, 6, 0, 4}, 9))
	if _, code := impl.MsgRead(nine); code != 2 {
		t.Errorf("nine parts: %d", code)
	}
	eight := rawMsg(1, bytes.Repeat([]byte{0, 6, 0, 4}, 8))
	if _, code := impl.MsgRead(eight); code != 3 {
		t.Errorf("eight parts: %d", code)
	}
}

func TestMsgReadCodes(t *testing.T) {
	ctx, num, target, body := rawCtx(2), rawNum(77), rawTarget(300, 15), rawBody([]byte{1, 2, 3})
	far := []byte{0, 6, 0, 69}
	cut := []byte{0, 6, 0}
	low := []byte{0, 6, 0, 3}
	unfilled := []byte{0, 9, 0, 5, 7, 1, 0, 0}
	for i, c := range []struct {
		b    []byte
		code int
	}{
		{rawMsg(10, ctx, num, target, body), 0},
		// 2: OctRead has a code, each one of them.
		{rawMsg(10, ctx, num, target, body, cut), 2},
		{rawMsg(10, ctx, num, target, body, far), 2},
		{rawMsg(10, ctx, num, target, body, low), 2},
		{rawMsg(10, ctx, num, target, unfilled), 2},
		{rawMsg(10, ctx, num, target, body, bytes.Repeat([]byte{0, 9, 0, 4}, 5)), 2},
		{rawMsg(10, ctx, num, target, rawBody(counted(65))), 2},
		{rawMsg(10, ctx, num, target, []byte{0, 9, 0, 8, 1, 2, 3}), 2},
		// 3: there is no such kind.
		{rawMsg(0), 3},
		{rawMsg(16), 3},
		{rawMsg(255), 3},
		{rawMsg(0, ctx), 3},
		{rawMsg(16, num), 3},
		{rawMsg(16, ctx, num, target, body), 3},
		// 3: in another order.
		{rawMsg(10, num, ctx, target, body), 3},
		{rawMsg(10, ctx, target, num, body), 3},
		{rawMsg(10, ctx, num, body, target), 3},
		{rawMsg(10, body, target, num, ctx), 3},
		{rawMsg(9, num, ctx), 3},
		// 3: twice.
		{rawMsg(5, ctx, ctx), 3},
		{rawMsg(9, ctx, ctx), 3},
		{rawMsg(9, num, num), 3},
		{rawMsg(9, ctx, ctx, num), 3},
		{rawMsg(11, num, num), 3},
		{rawMsg(10, ctx, num, target, target, body), 3},
		{rawMsg(10, ctx, num, target, body, body), 3},
		{rawMsg(10, ctx, num, num, body), 3},
		// 3: missing.
		{rawMsg(5), 3},
		{rawMsg(8), 3},
		{rawMsg(9), 3},
		{rawMsg(9, ctx), 3},
		{rawMsg(9, num), 3},
		{rawMsg(11), 3},
		{rawMsg(15), 3},
		{rawMsg(10), 3},
		{rawMsg(10, num, target, body), 3},
		{rawMsg(10, ctx, target, body), 3},
		{rawMsg(10, ctx, num, body), 3},
		{rawMsg(10, ctx, num, target), 3},
		// 3: what the kind has not.
		{rawMsg(1, ctx), 3},
		{rawMsg(4, num), 3},
		{rawMsg(2, body), 3},
		{rawMsg(5, num), 3},
		{rawMsg(5, ctx, num), 3},
		{rawMsg(8, ctx, num), 3},
		{rawMsg(11, ctx), 3},
		{rawMsg(11, ctx, num), 3},
		{rawMsg(15, num, ctx), 3},
		{rawMsg(9, ctx, num, target), 3},
		{rawMsg(9, ctx, num, target, body), 3},
		{rawMsg(5, rawTlv(5, bigFirst(2, 4))), 3},
		{rawMsg(5, rawTlv(262, bigFirst(2, 4))), 3},
		{rawMsg(10, ctx, num, target, rawTlv(10, []byte{1})), 3},
		{rawMsg(1, rawTlv(77, nil)), 3},
		// 3: not of four bytes.
		{rawMsg(5, rawTlv(6, []byte{0, 0, 2})), 3},
		{rawMsg(5, rawTlv(6, []byte{0, 0, 0, 2, 0})), 3},
		{rawMsg(5, rawTlv(6, []byte{0, 0, 0, 0, 2})), 3},
		{rawMsg(5, rawTlv(6, []byte{2})), 3},
		{rawMsg(5, rawTlv(6, nil)), 3},
		{rawMsg(5, rawTlv(6, []byte{0, 0, 0, 2, 0, 0, 0, 0})), 3},
		{rawMsg(11, rawTlv(7, []byte{0, 0, 2})), 3},
		{rawMsg(11, rawTlv(7, []byte{0, 0, 0, 2, 0})), 3},
		{rawMsg(11, rawTlv(7, nil)), 3},
		{rawMsg(9, ctx, rawTlv(7, []byte{0, 0, 2})), 3},
		{rawMsg(10, ctx, num, rawTlv(8, []byte{0, 1, 2}), body), 3},
		{rawMsg(10, ctx, num, rawTlv(8, []byte{0, 1}), body), 3},
		{rawMsg(10, ctx, num, rawTlv(8, []byte{0, 1, 0, 2, 0}), body), 3},
		{rawMsg(10, ctx, num, rawTlv(8, nil), body), 3},
		// 4: it is not ok.
		{rawMsg(5, rawCtx(0)), 4},
		{rawMsg(5, rawCtx(1)), 0},
		{rawMsg(5, rawCtx(9)), 0},
		{rawMsg(5, rawCtx(10)), 4},
		{rawMsg(5, rawCtx(257)), 4},
		{rawMsg(5, rawCtx(4294967295)), 4},
		{rawMsg(11, rawNum(0)), 0},
		{rawMsg(11, rawNum(1000000)), 0},
		{rawMsg(11, rawNum(1000001)), 4},
		{rawMsg(11, rawNum(4294967295)), 4},
		{rawMsg(9, rawCtx(0), num), 4},
		{rawMsg(9, ctx, rawNum(1000001)), 4},
		{rawMsg(10, rawCtx(10), num, target, body), 4},
		{rawMsg(10, ctx, rawNum(1000001), target, body), 4},
		{rawMsg(10, ctx, num, rawTarget(0, 0), body), 0},
		{rawMsg(10, ctx, num, rawTarget(999, 15), body), 0},
		{rawMsg(10, ctx, num, rawTarget(1000, 15), body), 4},
		{rawMsg(10, ctx, num, rawTarget(999, 16), body), 4},
		{rawMsg(10, ctx, num, rawTarget(65535, 0), body), 4},
		{rawMsg(10, ctx, num, rawTarget(0, 65535), body), 4},
		{rawMsg(10, ctx, num, target, rawBody(nil)), 4},
		{rawMsg(10, ctx, num, target, rawBody(counted(1))), 0},
		{rawMsg(10, ctx, num, target, rawBody(counted(12))), 0},
		{rawMsg(10, ctx, num, target, rawBody(counted(13))), 4},
		{rawMsg(10, ctx, num, target, rawBody(counted(64))), 4},
		// What comes first in the list of codes is told, wherever it stands.
		{slices.Concat([]byte{1, 0, 0, 0, 0, 9, 0, 0}, cut), 1},
		{slices.Concat([]byte{2, 0, 5, 0, 0, 16, 0, 0}, rawCtx(0)), 1},
		{rawMsg(0, cut), 2},
		{rawMsg(16, far), 2},
		{rawMsg(1, ctx, low), 2},
		{rawMsg(5, rawCtx(0), cut), 2},
		{rawMsg(0, rawCtx(0)), 3},
		{rawMsg(5, rawCtx(0), rawCtx(0)), 3},
		{rawMsg(10, rawCtx(0), num, rawTlv(8, []byte{1}), body), 3},
		{rawMsg(10, rawCtx(0), num, target), 3},
		{rawMsg(10, ctx, num, target, rawBody(nil), ctx), 3},
	} {
		got, code := impl.MsgRead(c.b)
		if code != c.code {
			t.Errorf("case %d: %v: code %d, want %d", i, c.b, code, c.code)
		}
		if code != 0 && !sameValue(got, impl.MsgWord{}) {
			t.Errorf("case %d: code %d and %v", i, code, got)
		}
		checkMsgRead(t, c.b)
	}
}

func TestMsgMemory(t *testing.T) {
	for _, good := range goodMsgs() {
		w := roomy(good)
		var b []byte
		checkMemory(t, "MsgWrite", func() []any {
			b = impl.MsgWrite(w)
			return []any{b, impl.MsgWrite(w)}
		}, w)
		bytesOf := roomy(b)
		checkMemory(t, "MsgRead", func() []any {
			first, _ := impl.MsgRead(bytesOf)
			second, _ := impl.MsgRead(bytesOf)
			return []any{first, second}
		}, bytesOf)
		// What is behind the end is not there, though the memory has room for it.
		for cut := range b {
			part := roomy(b[:cut])
			checkMemory(t, "MsgRead", func() []any {
				got, code := impl.MsgRead(part)
				if code == 0 {
					t.Errorf("%v: %v", part, got)
				}
				return []any{got}
			}, part)
		}
	}
	for _, bad := range badMsgs() {
		w := roomy(bad)
		checkMemory(t, "MsgOk", func() []any {
			impl.MsgOk(w)
			return []any{impl.MsgWrite(w)}
		}, w)
	}
}

// Nothing is kept: the same is answered again, whatever was asked between.
func TestMsgAnswersStay(t *testing.T) {
	list := goodMsgs()
	for i, w := range list {
		b := impl.MsgWrite(w)
		impl.MsgWrite(list[(i+7)%len(list)])
		impl.MsgRead(counted(9))
		impl.MsgOk(impl.MsgWord{Kind: math.MaxInt})
		if !bytes.Equal(impl.MsgWrite(w), b) || !impl.MsgOk(w) {
			t.Errorf("%v", w)
		}
	}
}
