package tests

import (
	"bytes"
	"math"
	"math/rand"
	"slices"
	"testing"

	"loop.example/trunk/impl"
)

// reach is what a number may be, both ends included.
type reach struct{ from, to int }

// row is what the document's table tells of one kind: its numbers, in the order in which they are written, and its body.
type row struct {
	flags  reach
	fields []field
	body   *reach
}

// field is a number of so many bytes; one without a place is always 0.
type field struct {
	size  int
	in    reach
	place func(c *impl.FrmChunk) *int
}

func tagOf(c *impl.FrmChunk) *int    { return &c.Tag }
func tsnOf(c *impl.FrmChunk) *int    { return &c.Tsn }
func streamOf(c *impl.FrmChunk) *int { return &c.Stream }
func ssnOf(c *impl.FrmChunk) *int    { return &c.Ssn }
func windowOf(c *impl.FrmChunk) *int { return &c.Window }
func causeOf(c *impl.FrmChunk) *int  { return &c.Cause }
func flagsOf(c *impl.FrmChunk) *int  { return &c.Flags }

var short, long = reach{0, 65535}, reach{0, 4294967295}

var first = []field{{4, reach{1, 4294967295}, tagOf}, {4, reach{0, 65535}, windowOf}, {2, reach{1, 8}, streamOf}, {2, reach{}, nil}, {4, long, tsnOf}}

// rows is the document's table; gaps and doubles of kind 3 stand elsewhere.
var rows = map[int]row{
	0:  {reach{0, 7}, []field{{4, long, tsnOf}, {2, short, streamOf}, {2, short, ssnOf}}, &reach{1, 16}},
	1:  {reach{}, first, nil},
	2:  {reach{}, first, &reach{1, 64}},
	3:  {reach{}, []field{{4, long, tsnOf}, {4, reach{0, 65535}, windowOf}}, nil},
	4:  {reach{}, nil, &reach{0, 16}},
	5:  {reach{}, nil, &reach{0, 16}},
	6:  {reach{0, 1}, []field{{2, short, causeOf}, {2, reach{}, nil}}, nil},
	7:  {reach{}, []field{{4, long, tsnOf}}, nil},
	8:  {},
	9:  {reach{}, []field{{2, short, causeOf}, {2, reach{}, nil}}, nil},
	10: {reach{}, nil, &reach{1, 64}},
	11: {},
	14: {},
}

var kindsKnown = []int{0, 1, 2, 3, 4, 5, 6, 7, 8, 9, 10, 11, 14}

func (r reach) has(n int) bool { return n >= r.from && n <= r.to }

// slowChunkOk holds a chunk against the rows.
func slowChunkOk(c impl.FrmChunk) bool {
	r, known := rows[c.Kind]
	if !known || !r.flags.has(c.Flags) {
		return false
	}
	left := c
	left.Kind, left.Flags = 0, 0
	for _, f := range r.fields {
		if f.place == nil {
			continue
		}
		if !f.in.has(*f.place(&left)) {
			return false
		}
		*f.place(&left) = 0
	}
	if left.Tag != 0 || left.Tsn != 0 || left.Stream != 0 || left.Ssn != 0 || left.Window != 0 || left.Cause != 0 {
		return false
	}
	if r.body == nil && len(c.Body) > 0 || r.body != nil && !r.body.has(len(c.Body)) {
		return false
	}
	if c.Kind != 3 {
		return len(c.Gaps) == 0 && len(c.Doubles) == 0
	}
	return slowGapsOk(c.Gaps) && len(c.Doubles) <= 4 && !slices.ContainsFunc(c.Doubles, func(n int) bool { return !long.has(n) })
}

// slowGapsOk: no number of a gap touches another one, nor the number 0.
func slowGapsOk(gaps []impl.FrmGap) bool {
	last := 0
	for i, g := range gaps {
		if i == 4 || g.To < g.From || g.To > 65535 || g.From <= last+1 {
			return false
		}
		last = g.To
	}
	return true
}

func slowFrameOk(p impl.FrmPacket) bool {
	if !short.has(p.From) || !short.has(p.To) || !long.has(p.Tag) || len(p.Chunks) < 1 || len(p.Chunks) > 8 {
		return false
	}
	for _, c := range p.Chunks {
		if !slowChunkOk(c) || len(p.Chunks) > 1 && slices.Contains([]int{1, 2, 14}, c.Kind) {
			return false
		}
	}
	return p.Tag == 0 && p.Chunks[0].Kind == 1 || p.Tag != 0 && p.Chunks[0].Kind != 1
}

// bigFirst writes a number, the greatest byte first.
func bigFirst(n int, size int) []byte {
	b := make([]byte, size)
	for i := range b {
		b[size-1-i] = byte(n)
		n /= 256
	}
	return b
}

// slowBehind is what stands behind the head of a chunk.
func slowBehind(c impl.FrmChunk) []byte {
	var b []byte
	for _, f := range rows[c.Kind].fields {
		if f.place == nil {
			b = append(b, 0, 0)
		} else {
			b = append(b, bigFirst(*f.place(&c), f.size)...)
		}
	}
	if c.Kind == 3 {
		b = append(b, 0, byte(len(c.Gaps)), 0, byte(len(c.Doubles)))
	}
	for _, g := range c.Gaps {
		b = append(append(b, bigFirst(g.From, 2)...), bigFirst(g.To, 2)...)
	}
	for _, d := range c.Doubles {
		b = append(b, bigFirst(d, 4)...)
	}
	return append(b, c.Body...)
}

// rawChunk is a chunk of whatever kind and flags, filled up.
func rawChunk(kind int, flags int, behind []byte) []byte {
	b := append([]byte{byte(kind), byte(flags)}, bigFirst(4+len(behind), 2)...)
	b = append(b, behind...)
	for len(b)%4 != 0 {
		b = append(b, 0)
	}
	return b
}

// rawFrame is a frame of whatever chunks, with its sum.
func rawFrame(from int, to int, tag int, chunks ...[]byte) []byte {
	b := append(append(append(bigFirst(from, 2), bigFirst(to, 2)...), bigFirst(tag, 4)...), 0, 0, 0, 0)
	return summed(append(b, slices.Concat(chunks...)...))
}

// summed has the right sum in its place.
func summed(b []byte) []byte {
	b = slices.Clone(b)
	copy(b[8:12], make([]byte, 4))
	copy(b[8:12], bigFirst(slowSum(b), 4))
	return b
}

func slowFrame(p impl.FrmPacket) []byte {
	var chunks [][]byte
	for _, c := range p.Chunks {
		chunks = append(chunks, rawChunk(c.Kind, c.Flags, slowBehind(c)))
	}
	return rawFrame(p.From, p.To, p.Tag, chunks...)
}

func sameChunks(a impl.FrmChunk, b impl.FrmChunk) bool {
	return a.Kind == b.Kind && a.Flags == b.Flags && a.Tag == b.Tag && a.Tsn == b.Tsn && a.Stream == b.Stream && a.Ssn == b.Ssn && a.Window == b.Window && a.Cause == b.Cause &&
		slices.Equal(a.Gaps, b.Gaps) && slices.Equal(a.Doubles, b.Doubles) && bytes.Equal(a.Body, b.Body)
}

func sameFrames(a impl.FrmPacket, b impl.FrmPacket) bool {
	return a.From == b.From && a.To == b.To && a.Tag == b.Tag && slices.EqualFunc(a.Chunks, b.Chunks, sameChunks)
}

// slowRead reads by guessing: each chunk is taken as its kind tells, and is right if its own writing is what was there.
func slowRead(b []byte) (impl.FrmPacket, []int, int) {
	none := impl.FrmPacket{}
	if len(b) < 12 || len(b) > 700 || len(b)%4 != 0 {
		return none, nil, 1
	}
	if !bytes.Equal(summed(b), b) {
		return none, nil, 2
	}
	p := impl.FrmPacket{From: small(b[0:2]), To: small(b[2:4]), Tag: small(b[4:8])}
	var told []int
	for b = b[12:]; len(b) > 0; {
		size := small(b[2:4])
		full := (size + 3) / 4 * 4
		if size < 4 || full > len(b) || small(b[size:full]) != 0 {
			return none, nil, 3
		}
		one := b[:full]
		b = b[full:]
		kind := int(one[0])
		if _, known := rows[kind]; known {
			c, right := slowGuess(kind, int(one[1]), one[4:size])
			if !right || !slowChunkOk(c) || !bytes.Equal(rawChunk(kind, c.Flags, slowBehind(c)), one) {
				return none, nil, 3
			}
			p.Chunks = append(p.Chunks, c)
			continue
		}
		if kind >= 64 && kind < 128 || kind >= 192 {
			told = append(told, kind)
		}
		if kind < 128 {
			break
		}
	}
	if len(p.Chunks) == 0 {
		return none, nil, 5
	}
	if !slowFrameOk(p) {
		return none, nil, 4
	}
	return p, told, 0
}

func small(b []byte) int {
	n := 0
	for _, octet := range b {
		n = n*256 + int(octet)
	}
	return n
}

func slowGuess(kind int, flags int, b []byte) (impl.FrmChunk, bool) {
	c := impl.FrmChunk{Kind: kind, Flags: flags}
	for _, f := range rows[kind].fields {
		if len(b) < f.size {
			return c, false
		}
		if f.place != nil {
			*f.place(&c) = small(b[:f.size])
		}
		b = b[f.size:]
	}
	if kind == 3 {
		if len(b) < 4 || len(b) != 4+4*small(b[0:2])+4*small(b[2:4]) {
			return c, false
		}
		gaps := small(b[0:2])
		for b = b[4:]; len(b) > 0; b = b[4:] {
			if len(c.Gaps) < gaps {
				c.Gaps = append(c.Gaps, impl.FrmGap{From: small(b[0:2]), To: small(b[2:4])})
			} else {
				c.Doubles = append(c.Doubles, small(b[:4]))
			}
		}
	}
	c.Body = slices.Clone(b)
	return c, true
}

// someGaps meet each limit: as near to each other, and as far on, as they may be.
var someGaps = [][]impl.FrmGap{
	nil, {}, {{From: 2, To: 2}}, {{From: 2, To: 65535}}, {{From: 65535, To: 65535}},
	{{From: 2, To: 3}, {From: 5, To: 5}, {From: 7, To: 7}, {From: 9, To: 1000}},
	{{From: 40000, To: 50000}, {From: 65535, To: 65535}},
}

// goodChunks are of each kind, each limit met exactly.
func goodChunks() []impl.FrmChunk {
	var list []impl.FrmChunk
	for _, flags := range []int{0, impl.FrmLast, impl.FrmFirst, impl.FrmLast + impl.FrmFirst, impl.FrmLoose, impl.FrmLoose + impl.FrmLast, impl.FrmLoose + impl.FrmFirst, 7} {
		list = append(list, impl.FrmChunk{Kind: impl.FrmData, Flags: flags, Tsn: 4294967295, Stream: 65535, Ssn: 65535, Body: counted(1 + 2*flags)})
	}
	for size := 1; size <= impl.FrmMaxBody; size++ {
		list = append(list, impl.FrmChunk{Kind: impl.FrmData, Tsn: size, Stream: 2 * size, Ssn: 3 * size, Body: counted(size)})
	}
	for _, c := range []impl.FrmChunk{{Tag: 1, Stream: 1}, {Tag: 4294967295, Window: 65535, Stream: 8, Tsn: 4294967295}, {Tag: 16909060, Window: 4096, Stream: 3, Tsn: 84281096}} {
		c.Kind = impl.FrmInit
		list = append(list, c)
		c.Kind = impl.FrmInitAck
		for _, size := range []int{1, 2, 3, 4, 44, 63, 64} {
			c.Body = counted(size)
			list = append(list, c)
		}
	}
	for _, gaps := range someGaps {
		list = append(list, impl.FrmChunk{Kind: impl.FrmSack, Tsn: 4294967295, Window: 65535, Gaps: gaps, Doubles: []int{0, 4294967295, 7, 7}})
		list = append(list, impl.FrmChunk{Kind: impl.FrmSack, Gaps: gaps})
	}
	for size := range impl.FrmMaxBody + 1 {
		list = append(list, impl.FrmChunk{Kind: impl.FrmBeat, Body: counted(size)}, impl.FrmChunk{Kind: impl.FrmBeatAck, Body: counted(size)})
	}
	for _, cause := range []int{0, 1, 258, 65535} {
		list = append(list, impl.FrmChunk{Kind: impl.FrmAbort, Cause: cause}, impl.FrmChunk{Kind: impl.FrmAbort, Flags: 1, Cause: cause}, impl.FrmChunk{Kind: impl.FrmError, Cause: cause})
	}
	list = append(list, impl.FrmChunk{Kind: impl.FrmShut}, impl.FrmChunk{Kind: impl.FrmShut, Tsn: 4294967295})
	list = append(list, impl.FrmChunk{Kind: impl.FrmShutAck}, impl.FrmChunk{Kind: impl.FrmEchoAck}, impl.FrmChunk{Kind: impl.FrmShutDone})
	for size := 1; size <= impl.FrmMaxCookie; size++ {
		list = append(list, impl.FrmChunk{Kind: impl.FrmEcho, Body: counted(size)})
	}
	return list
}

func alone(kind int) bool {
	return kind == impl.FrmInit || kind == impl.FrmInitAck || kind == impl.FrmShutDone
}

// frameOf is a frame of one chunk, under 0 just if it must be.
func frameOf(c impl.FrmChunk) impl.FrmPacket {
	p := impl.FrmPacket{From: 258, To: 65535, Tag: 16909060, Chunks: []impl.FrmChunk{c}}
	if c.Kind == impl.FrmInit {
		p.Tag = 0
	}
	return p
}

// goodFrames are one of each good chunk, and some with several by chance, always the same ones.
func goodFrames() []impl.FrmPacket {
	var frames []impl.FrmPacket
	var together []impl.FrmChunk
	for _, c := range goodChunks() {
		frames = append(frames, frameOf(c))
		if !alone(c.Kind) {
			together = append(together, c)
		}
	}
	chance := rand.New(rand.NewSource(4))
	for n := range 200 {
		p := impl.FrmPacket{From: chance.Intn(65536), To: chance.Intn(65536), Tag: 1 + chance.Intn(4294967295)}
		for range 1 + n%impl.FrmMaxChunks {
			p.Chunks = append(p.Chunks, together[chance.Intn(len(together))])
		}
		frames = append(frames, p)
	}
	return append(frames, impl.FrmPacket{Tag: 1, Chunks: slices.Repeat([]impl.FrmChunk{{Kind: impl.FrmEcho, Body: counted(64)}}, 8)})
}

func TestFrmChunkOkOfEachKind(t *testing.T) {
	seen := map[int]bool{}
	for _, c := range goodChunks() {
		seen[c.Kind] = true
		if !impl.FrmChunkOk(c) || !slowChunkOk(c) {
			t.Errorf("%v is not ok", c)
		}
	}
	for _, kind := range kindsKnown {
		if !seen[kind] {
			t.Errorf("no chunk of the kind %d was asked", kind)
		}
	}
}

func TestFrmChunkOkOfOtherKinds(t *testing.T) {
	others := []int{-1, 256, 256 + impl.FrmBeat, math.MinInt, math.MaxInt}
	for kind := range 256 {
		if !slices.Contains(kindsKnown, kind) {
			others = append(others, kind)
		}
	}
	for _, kind := range others {
		for _, c := range []impl.FrmChunk{{Kind: kind}, {Kind: kind, Body: []byte{1}}, {Kind: kind, Tag: 1, Stream: 1}} {
			if impl.FrmChunkOk(c) || impl.FrmOk(frameOf(c)) {
				t.Errorf("%v is ok", c)
			}
		}
	}
}

// Each number of each good chunk is set to numbers in and out of all limits, what the kind has not included.
func TestFrmChunkOkOfEachNumber(t *testing.T) {
	places := []func(c *impl.FrmChunk) *int{flagsOf, tagOf, tsnOf, streamOf, ssnOf, windowOf, causeOf}
	numbers := []int{math.MinInt, -4294967296, -65536, -8, -2, -1, 0, 1, 2, 3, 6, 7, 8, 9, 255, 256, 257, 65535, 65536, 4294967295, 4294967296, 4294967297, math.MaxInt}
	yes, no := 0, 0
	for _, c := range goodChunks() {
		for i, place := range places {
			for _, n := range numbers {
				turned := c
				*place(&turned) = n
				want := slowChunkOk(turned)
				if impl.FrmChunkOk(turned) != want {
					t.Errorf("%v, its number %d being %d: not %v", turned, i, n, want)
				}
				if want {
					yes++
				} else {
					no++
				}
			}
		}
	}
	if yes == 0 || no == 0 {
		t.Error("all are alike")
	}
}

func TestFrmChunkOkRefusesWhatAKindHasNot(t *testing.T) {
	for _, c := range goodChunks() {
		for i, add := range []func(c *impl.FrmChunk){
			func(c *impl.FrmChunk) { c.Gaps = []impl.FrmGap{{From: 2, To: 2}} },
			func(c *impl.FrmChunk) { c.Gaps = []impl.FrmGap{{}} },
			func(c *impl.FrmChunk) { c.Doubles = []int{0} },
			func(c *impl.FrmChunk) { c.Body = []byte{0} },
			func(c *impl.FrmChunk) { c.Body = counted(17) },
			func(c *impl.FrmChunk) { c.Body = counted(65) },
		} {
			turned := c
			add(&turned)
			if want := slowChunkOk(turned); impl.FrmChunkOk(turned) != want {
				t.Errorf("case %d of %v: not %v", i, turned, want)
			}
		}
	}
}

func TestFrmChunkOkOfEmptyLists(t *testing.T) {
	for _, c := range goodChunks() {
		if len(c.Gaps) == 0 && len(c.Doubles) == 0 && len(c.Body) == 0 {
			c.Gaps, c.Doubles, c.Body = []impl.FrmGap{}, []int{}, []byte{}
			full := c
			full.Gaps, full.Doubles, full.Body = nil, nil, nil
			if !impl.FrmChunkOk(c) || !impl.FrmChunkOk(full) {
				t.Errorf("%v: an empty list is not as a nil one", c)
			}
		}
	}
}

func TestFrmChunkOkAtLimits(t *testing.T) {
	data := impl.FrmChunk{Kind: impl.FrmData, Body: []byte{1}}
	init := impl.FrmChunk{Kind: impl.FrmInit, Tag: 1, Stream: 1}
	ack := impl.FrmChunk{Kind: impl.FrmInitAck, Tag: 1, Stream: 1, Body: []byte{1}}
	for i, c := range []struct {
		chunk impl.FrmChunk
		turn  func(c *impl.FrmChunk)
	}{
		{data, func(c *impl.FrmChunk) { c.Body = nil }},
		{data, func(c *impl.FrmChunk) { c.Body = counted(17) }},
		{data, func(c *impl.FrmChunk) { c.Flags = 8 }},
		{data, func(c *impl.FrmChunk) { c.Flags = -1 }},
		{data, func(c *impl.FrmChunk) { c.Flags = 256 }},
		{data, func(c *impl.FrmChunk) { c.Stream = 65536 }},
		{data, func(c *impl.FrmChunk) { c.Ssn = -1 }},
		{data, func(c *impl.FrmChunk) { c.Tsn = 4294967296 }},
		{init, func(c *impl.FrmChunk) { c.Tag = 0 }},
		{init, func(c *impl.FrmChunk) { c.Stream = 0 }},
		{init, func(c *impl.FrmChunk) { c.Stream = 9 }},
		{init, func(c *impl.FrmChunk) { c.Window = 65536 }},
		{init, func(c *impl.FrmChunk) { c.Body = []byte{1} }},
		{ack, func(c *impl.FrmChunk) { c.Body = nil }},
		{ack, func(c *impl.FrmChunk) { c.Body = counted(65) }},
		{impl.FrmChunk{Kind: impl.FrmBeat}, func(c *impl.FrmChunk) { c.Body = counted(17) }},
		{impl.FrmChunk{Kind: impl.FrmBeatAck}, func(c *impl.FrmChunk) { c.Body = counted(17) }},
		{impl.FrmChunk{Kind: impl.FrmEcho, Body: counted(64)}, func(c *impl.FrmChunk) { c.Body = counted(65) }},
		{impl.FrmChunk{Kind: impl.FrmEcho, Body: counted(64)}, func(c *impl.FrmChunk) { c.Body = nil }},
		{impl.FrmChunk{Kind: impl.FrmAbort, Flags: 1}, func(c *impl.FrmChunk) { c.Flags = 2 }},
		{impl.FrmChunk{Kind: impl.FrmAbort, Flags: 1}, func(c *impl.FrmChunk) { c.Flags = -1 }},
		{impl.FrmChunk{Kind: impl.FrmAbort, Flags: 1}, func(c *impl.FrmChunk) { c.Cause = 65536 }},
		{impl.FrmChunk{Kind: impl.FrmError}, func(c *impl.FrmChunk) { c.Flags = 1 }},
		{impl.FrmChunk{Kind: impl.FrmError}, func(c *impl.FrmChunk) { c.Cause = -1 }},
		{impl.FrmChunk{Kind: impl.FrmShut}, func(c *impl.FrmChunk) { c.Tsn = -1 }},
		{impl.FrmChunk{Kind: impl.FrmShutAck}, func(c *impl.FrmChunk) { c.Tsn = 1 }},
		{impl.FrmChunk{Kind: impl.FrmEchoAck}, func(c *impl.FrmChunk) { c.Body = []byte{0} }},
		{impl.FrmChunk{Kind: impl.FrmShutDone}, func(c *impl.FrmChunk) { c.Flags = 1 }},
		{impl.FrmChunk{Kind: impl.FrmSack}, func(c *impl.FrmChunk) { c.Doubles = make([]int, 5) }},
		{impl.FrmChunk{Kind: impl.FrmSack}, func(c *impl.FrmChunk) { c.Doubles = []int{0, 4294967296} }},
		{impl.FrmChunk{Kind: impl.FrmSack}, func(c *impl.FrmChunk) { c.Doubles = []int{-1} }},
	} {
		if !impl.FrmChunkOk(c.chunk) {
			t.Errorf("case %d: %v is not ok", i, c.chunk)
		}
		c.turn(&c.chunk)
		if impl.FrmChunkOk(c.chunk) || len(impl.FrmWrite(frameOf(c.chunk))) != 0 {
			t.Errorf("case %d: %v is ok", i, c.chunk)
		}
	}
}

func TestFrmChunkOkOfGaps(t *testing.T) {
	for _, gaps := range someGaps {
		if !impl.FrmChunkOk(impl.FrmChunk{Kind: impl.FrmSack, Gaps: gaps}) {
			t.Errorf("%v are not ok", gaps)
		}
	}
	for _, gaps := range [][]impl.FrmGap{
		{{}}, {{From: 1, To: 1}}, {{From: 0, To: 5}}, {{From: -3, To: 5}}, {{From: 3, To: 2}},
		{{From: 2, To: 65536}}, {{From: 65536, To: 65536}}, {{From: math.MinInt, To: math.MaxInt}}, {{From: math.MaxInt, To: math.MaxInt}},
		{{From: 2, To: 3}, {From: 4, To: 5}},
		{{From: 2, To: 3}, {From: 3, To: 5}},
		{{From: 2, To: 9}, {From: 4, To: 5}},
		{{From: 7, To: 9}, {From: 2, To: 3}},
		{{From: 7, To: 9}, {From: 7, To: 9}},
		{{From: 2, To: 2}, {From: 4, To: 4}, {From: 6, To: 6}, {From: 8, To: 8}, {From: 10, To: 10}},
	} {
		if impl.FrmChunkOk(impl.FrmChunk{Kind: impl.FrmSack, Gaps: gaps}) {
			t.Errorf("%v are ok", gaps)
		}
	}
}

func TestFrmOk(t *testing.T) {
	beat := impl.FrmChunk{Kind: impl.FrmBeat}
	init := impl.FrmChunk{Kind: impl.FrmInit, Tag: 1, Stream: 1}
	ack := impl.FrmChunk{Kind: impl.FrmInitAck, Tag: 1, Stream: 1, Body: []byte{1}}
	done := impl.FrmChunk{Kind: impl.FrmShutDone}
	for i, c := range []struct {
		from, to, tag int
		chunks        []impl.FrmChunk
		want          bool
	}{
		{0, 0, 1, []impl.FrmChunk{beat}, true},
		{65535, 65535, 4294967295, []impl.FrmChunk{beat}, true},
		{65536, 0, 1, []impl.FrmChunk{beat}, false},
		{0, 65536, 1, []impl.FrmChunk{beat}, false},
		{-1, 0, 1, []impl.FrmChunk{beat}, false},
		{0, -1, 1, []impl.FrmChunk{beat}, false},
		{0, 0, -1, []impl.FrmChunk{beat}, false},
		{0, 0, 4294967296, []impl.FrmChunk{beat}, false},
		{0, 0, 1, nil, false},
		{0, 0, 1, []impl.FrmChunk{}, false},
		{0, 0, 0, nil, false},
		{0, 0, 1, slices.Repeat([]impl.FrmChunk{beat}, 8), true},
		{0, 0, 1, slices.Repeat([]impl.FrmChunk{beat}, 9), false},
		{0, 0, 1, []impl.FrmChunk{beat, {Kind: 12}}, false},
		{0, 0, 1, []impl.FrmChunk{beat, {Kind: impl.FrmBeat, Tsn: 1}}, false},
		{0, 0, 0, []impl.FrmChunk{beat}, false},
		{0, 0, 0, []impl.FrmChunk{init}, true},
		{0, 0, 1, []impl.FrmChunk{init}, false},
		{0, 0, 0, []impl.FrmChunk{init, init}, false},
		{0, 0, 0, []impl.FrmChunk{init, beat}, false},
		{0, 0, 1, []impl.FrmChunk{beat, init}, false},
		{0, 0, 0, []impl.FrmChunk{beat, init}, false},
		{0, 0, 1, []impl.FrmChunk{ack}, true},
		{0, 0, 0, []impl.FrmChunk{ack}, false},
		{0, 0, 1, []impl.FrmChunk{ack, beat}, false},
		{0, 0, 1, []impl.FrmChunk{beat, ack}, false},
		{0, 0, 1, []impl.FrmChunk{done}, true},
		{0, 0, 0, []impl.FrmChunk{done}, false},
		{0, 0, 1, []impl.FrmChunk{done, beat}, false},
		{0, 0, 1, []impl.FrmChunk{beat, beat, done}, false},
	} {
		p := impl.FrmPacket{From: c.from, To: c.to, Tag: c.tag, Chunks: c.chunks}
		if impl.FrmOk(p) != c.want || slowFrameOk(p) != c.want {
			t.Errorf("case %d: not %v", i, c.want)
		}
		if (len(impl.FrmWrite(p)) > 0) != c.want {
			t.Errorf("case %d: it is written just if it is not ok", i)
		}
	}
}

func TestFrmWriteInBytes(t *testing.T) {
	for i, c := range []struct {
		chunk impl.FrmChunk
		want  []byte
	}{
		{impl.FrmChunk{Kind: impl.FrmData, Flags: 5, Tsn: 16909060, Stream: 1286, Ssn: 1800, Body: []byte{9, 10, 11}}, []byte{0, 5, 0, 15, 1, 2, 3, 4, 5, 6, 7, 8, 9, 10, 11, 0}},
		{impl.FrmChunk{Kind: impl.FrmInit, Tag: 16909060, Window: 65535, Stream: 8, Tsn: 4294967295}, []byte{1, 0, 0, 20, 1, 2, 3, 4, 0, 0, 255, 255, 0, 8, 0, 0, 255, 255, 255, 255}},
		{impl.FrmChunk{Kind: impl.FrmInitAck, Tag: 1, Window: 4096, Stream: 3, Tsn: 2, Body: []byte{7}}, []byte{2, 0, 0, 21, 0, 0, 0, 1, 0, 0, 16, 0, 0, 3, 0, 0, 0, 0, 0, 2, 7, 0, 0, 0}},
		{impl.FrmChunk{Kind: impl.FrmSack, Tsn: 9, Window: 4096}, []byte{3, 0, 0, 16, 0, 0, 0, 9, 0, 0, 16, 0, 0, 0, 0, 0}},
		{impl.FrmChunk{Kind: impl.FrmSack, Gaps: []impl.FrmGap{{From: 2, To: 258}, {From: 260, To: 65535}}, Doubles: []int{16909060}}, []byte{3, 0, 0, 28, 0, 0, 0, 0, 0, 0, 0, 0, 0, 2, 0, 1, 0, 2, 1, 2, 1, 4, 255, 255, 1, 2, 3, 4}},
		{impl.FrmChunk{Kind: impl.FrmBeat}, []byte{4, 0, 0, 4}},
		{impl.FrmChunk{Kind: impl.FrmBeat, Body: []byte{1, 2, 3, 4}}, []byte{4, 0, 0, 8, 1, 2, 3, 4}},
		{impl.FrmChunk{Kind: impl.FrmBeatAck, Body: []byte{1, 2, 3, 4, 5}}, []byte{5, 0, 0, 9, 1, 2, 3, 4, 5, 0, 0, 0}},
		{impl.FrmChunk{Kind: impl.FrmAbort, Flags: 1, Cause: 258}, []byte{6, 1, 0, 8, 1, 2, 0, 0}},
		{impl.FrmChunk{Kind: impl.FrmShut, Tsn: 16909060}, []byte{7, 0, 0, 8, 1, 2, 3, 4}},
		{impl.FrmChunk{Kind: impl.FrmShutAck}, []byte{8, 0, 0, 4}},
		{impl.FrmChunk{Kind: impl.FrmError, Cause: 65535}, []byte{9, 0, 0, 8, 255, 255, 0, 0}},
		{impl.FrmChunk{Kind: impl.FrmEcho, Body: []byte{1, 2}}, []byte{10, 0, 0, 6, 1, 2, 0, 0}},
		{impl.FrmChunk{Kind: impl.FrmEchoAck}, []byte{11, 0, 0, 4}},
		{impl.FrmChunk{Kind: impl.FrmShutDone}, []byte{14, 0, 0, 4}},
	} {
		p := frameOf(c.chunk)
		head := []byte{1, 2, 255, 255, 1, 2, 3, 4, 0, 0, 0, 0}
		if c.chunk.Kind == impl.FrmInit {
			head = []byte{1, 2, 255, 255, 0, 0, 0, 0, 0, 0, 0, 0}
		}
		want := summed(append(head, c.want...))
		if got := impl.FrmWrite(p); !bytes.Equal(got, want) {
			t.Errorf("case %d: %v, want %v", i, got, want)
		}
	}
	p := impl.FrmPacket{From: 1, To: 2, Tag: 3, Chunks: []impl.FrmChunk{{Kind: impl.FrmBeat, Body: []byte{1}}, {Kind: impl.FrmShutAck}}}
	if got := impl.FrmWrite(p); !bytes.Equal(got, summed([]byte{0, 1, 0, 2, 0, 0, 0, 3, 0, 0, 0, 0, 4, 0, 0, 5, 1, 0, 0, 0, 8, 0, 0, 4})) {
		t.Errorf("two chunks: %v", got)
	}
}

// P14: a frame that is written is read as it was.
func TestFrmReadOfFrmWrite(t *testing.T) {
	for _, p := range goodFrames() {
		b := impl.FrmWrite(p)
		if !impl.FrmOk(p) || !bytes.Equal(b, slowFrame(p)) {
			t.Errorf("%v: written as %v", p, b)
		}
		got, told, code := impl.FrmRead(b)
		if code != 0 || len(told) != 0 || !sameFrames(got, p) {
			t.Errorf("%v, %v, %d, want %v", got, told, code, p)
		}
	}
}

// P14: with one byte turned, each of them and in each way, the code is 2, and there is nothing else.
func TestFrmReadOfOneTurnedByte(t *testing.T) {
	for i, p := range goodFrames() {
		b := impl.FrmWrite(p)
		for at := range b {
			for turn := 1; turn < 256; turn += 1 + i%7*9 {
				b[at] ^= byte(turn)
				got, told, code := impl.FrmRead(b)
				if code != 2 || len(told) != 0 || !sameFrames(got, impl.FrmPacket{}) {
					t.Fatalf("%v, that at %d turned by %d: %v, %v, %d", b, at, turn, got, told, code)
				}
				b[at] ^= byte(turn)
			}
		}
	}
}

func TestFrmReadOfSizes(t *testing.T) {
	beat := rawChunk(impl.FrmBeat, 0, nil)
	for size := range 800 {
		b := append(rawFrame(1, 2, 3, beat), make([]byte, 4)...)
		if size > 16 {
			b = rawFrame(1, 2, 3, beat, rawChunk(130, 0, make([]byte, max(size-20, 0))))
		}
		want := 0
		switch {
		case size < 12 || size > 700 || size%4 != 0:
			want = 1
		case size == 12:
			want = 2
		}
		if _, _, code := impl.FrmRead(b[:size]); code != want {
			t.Errorf("%d bytes: %d, want %d", size, code, want)
		}
	}
	if _, _, code := impl.FrmRead(rawFrame(1, 2, 3)); code != 5 {
		t.Errorf("a head alone: %d", code)
	}
	if _, _, code := impl.FrmRead(nil); code != 1 {
		t.Errorf("no bytes: %d", code)
	}
}

func TestFrmReadCodes(t *testing.T) {
	beat := rawChunk(impl.FrmBeat, 0, []byte{1})
	init := rawChunk(impl.FrmInit, 0, []byte{0, 0, 0, 1, 0, 0, 0, 0, 0, 1, 0, 0, 0, 0, 0, 0})
	done := rawChunk(impl.FrmShutDone, 0, nil)
	sack := []byte{0, 0, 0, 0, 0, 0, 0, 0}
	for i, c := range []struct {
		tag    int
		chunks [][]byte
		want   int
	}{
		{1, [][]byte{beat}, 0},
		{0, [][]byte{init}, 0},
		{1, [][]byte{done}, 0},
		// 3: lengths that are told wrong, and what fills up.
		{1, [][]byte{{4, 0, 0, 0}}, 3},
		{1, [][]byte{{4, 0, 0, 3}}, 3},
		{1, [][]byte{{4, 0, 0, 5}}, 3},
		{1, [][]byte{{4, 0, 0, 9, 1, 2, 3, 4}}, 3},
		{1, [][]byte{{4, 0, 255, 255, 1, 2, 3, 4}}, 3},
		{1, [][]byte{{4, 0, 0, 5, 1, 0, 0, 1}}, 3},
		{1, [][]byte{{4, 0, 0, 6, 1, 2, 1, 0}}, 3},
		{1, [][]byte{{4, 0, 0, 7, 1, 2, 3, 255}}, 3},
		{1, [][]byte{beat, {4, 0, 0, 8}}, 3},
		{1, [][]byte{beat, {0, 0, 0, 0}}, 3},
		{1, [][]byte{{20, 0, 0, 3}}, 3},
		{1, [][]byte{{200, 0, 0, 8}}, 3},
		{1, [][]byte{{130, 0, 0, 5, 1, 0, 1, 0}, beat}, 3},
		{1, [][]byte{beat, {70, 0, 0, 5, 1, 0, 1, 0}}, 3},
		// 3: what stands behind a head is not as told.
		{1, [][]byte{rawChunk(impl.FrmData, 0, counted(7))}, 3},
		{1, [][]byte{rawChunk(impl.FrmData, 0, counted(8))}, 3},
		{1, [][]byte{rawChunk(impl.FrmData, 0, counted(9))}, 0},
		{1, [][]byte{rawChunk(impl.FrmData, 7, counted(24))}, 0},
		{1, [][]byte{rawChunk(impl.FrmData, 7, counted(25))}, 3},
		{1, [][]byte{rawChunk(impl.FrmData, 8, counted(24))}, 3},
		{1, [][]byte{rawChunk(impl.FrmData, 128, counted(24))}, 3},
		{0, [][]byte{rawChunk(impl.FrmInit, 0, init[4:19])}, 3},
		{0, [][]byte{rawChunk(impl.FrmInit, 0, append(slices.Clone(init[4:]), 0))}, 3},
		{0, [][]byte{rawChunk(impl.FrmInit, 1, init[4:])}, 3},
		{0, [][]byte{rawChunk(impl.FrmInit, 0, []byte{0, 0, 0, 0, 0, 0, 0, 0, 0, 1, 0, 0, 0, 0, 0, 0})}, 3},
		{0, [][]byte{rawChunk(impl.FrmInit, 0, []byte{0, 0, 0, 1, 0, 1, 0, 0, 0, 1, 0, 0, 0, 0, 0, 0})}, 3},
		{0, [][]byte{rawChunk(impl.FrmInit, 0, []byte{0, 0, 0, 1, 0, 0, 0, 0, 0, 0, 0, 0, 0, 0, 0, 0})}, 3},
		{0, [][]byte{rawChunk(impl.FrmInit, 0, []byte{0, 0, 0, 1, 0, 0, 0, 0, 0, 9, 0, 0, 0, 0, 0, 0})}, 3},
		{0, [][]byte{rawChunk(impl.FrmInit, 0, []byte{0, 0, 0, 1, 0, 0, 0, 0, 0, 1, 0, 1, 0, 0, 0, 0})}, 3},
		{0, [][]byte{rawChunk(impl.FrmInit, 0, []byte{0, 0, 0, 1, 0, 0, 0, 0, 0, 1, 1, 0, 0, 0, 0, 0})}, 3},
		{1, [][]byte{rawChunk(impl.FrmInitAck, 0, init[4:])}, 3},
		{1, [][]byte{rawChunk(impl.FrmInitAck, 0, append(slices.Clone(init[4:]), counted(64)...))}, 0},
		{1, [][]byte{rawChunk(impl.FrmInitAck, 0, append(slices.Clone(init[4:]), counted(65)...))}, 3},
		{1, [][]byte{rawChunk(impl.FrmSack, 0, sack)}, 3},
		{1, [][]byte{rawChunk(impl.FrmSack, 0, append(slices.Clone(sack), 0, 0, 0, 0))}, 0},
		{1, [][]byte{rawChunk(impl.FrmSack, 0, append(slices.Clone(sack), 0, 0, 0))}, 3},
		{1, [][]byte{rawChunk(impl.FrmSack, 0, append(slices.Clone(sack), 0, 0, 0, 0, 0, 0, 0, 0))}, 3},
		{1, [][]byte{rawChunk(impl.FrmSack, 0, append(slices.Clone(sack), 0, 1, 0, 0, 0, 2, 0, 2))}, 0},
		{1, [][]byte{rawChunk(impl.FrmSack, 0, append(slices.Clone(sack), 0, 1, 0, 0, 0, 1, 0, 2))}, 3},
		{1, [][]byte{rawChunk(impl.FrmSack, 0, append(slices.Clone(sack), 0, 1, 0, 0, 0, 2))}, 3},
		{1, [][]byte{rawChunk(impl.FrmSack, 0, append(slices.Clone(sack), 0, 0, 0, 1, 0, 0, 0, 0))}, 0},
		{1, [][]byte{rawChunk(impl.FrmSack, 0, append(slices.Clone(sack), 0, 1, 0, 1, 0, 2, 0, 2))}, 3},
		{1, [][]byte{rawChunk(impl.FrmSack, 0, append(slices.Clone(sack), append([]byte{0, 0, 0, 5}, make([]byte, 20)...)...))}, 3},
		{1, [][]byte{rawChunk(impl.FrmSack, 0, append(slices.Clone(sack), append([]byte{0, 0, 0, 4}, make([]byte, 16)...)...))}, 0},
		{1, [][]byte{rawChunk(impl.FrmSack, 0, append(slices.Clone(sack), 0, 5, 0, 0, 0, 2, 0, 2, 0, 4, 0, 4, 0, 6, 0, 6, 0, 8, 0, 8, 0, 10, 0, 10))}, 3},
		{1, [][]byte{rawChunk(impl.FrmSack, 0, append(slices.Clone(sack), 255, 255, 255, 255))}, 3},
		{1, [][]byte{rawChunk(impl.FrmSack, 1, append(slices.Clone(sack), 0, 0, 0, 0))}, 3},
		{1, [][]byte{rawChunk(impl.FrmBeat, 0, counted(16))}, 0},
		{1, [][]byte{rawChunk(impl.FrmBeat, 0, counted(17))}, 3},
		{1, [][]byte{rawChunk(impl.FrmBeatAck, 1, nil)}, 3},
		{1, [][]byte{rawChunk(impl.FrmAbort, 1, []byte{255, 255, 0, 0})}, 0},
		{1, [][]byte{rawChunk(impl.FrmAbort, 2, []byte{0, 0, 0, 0})}, 3},
		{1, [][]byte{rawChunk(impl.FrmAbort, 0, []byte{0, 0, 0, 1})}, 3},
		{1, [][]byte{rawChunk(impl.FrmAbort, 0, []byte{0, 0})}, 3},
		{1, [][]byte{rawChunk(impl.FrmAbort, 0, make([]byte, 5))}, 3},
		{1, [][]byte{rawChunk(impl.FrmShut, 0, make([]byte, 3))}, 3},
		{1, [][]byte{rawChunk(impl.FrmShut, 0, make([]byte, 8))}, 3},
		{1, [][]byte{rawChunk(impl.FrmShut, 1, make([]byte, 4))}, 3},
		{1, [][]byte{rawChunk(impl.FrmShutAck, 0, []byte{0})}, 3},
		{1, [][]byte{rawChunk(impl.FrmEchoAck, 1, nil)}, 3},
		{1, [][]byte{rawChunk(impl.FrmShutDone, 0, make([]byte, 4))}, 3},
		{1, [][]byte{rawChunk(impl.FrmError, 0, []byte{0, 1, 1, 0})}, 3},
		{1, [][]byte{rawChunk(impl.FrmError, 0, []byte{0, 1, 0, 0})}, 0},
		{1, [][]byte{rawChunk(impl.FrmError, 1, []byte{0, 1, 0, 0})}, 3},
		{1, [][]byte{rawChunk(impl.FrmEcho, 0, nil)}, 3},
		{1, [][]byte{rawChunk(impl.FrmEcho, 0, counted(64))}, 0},
		{1, [][]byte{rawChunk(impl.FrmEcho, 0, counted(65))}, 3},
		// 5: none is known.
		{1, [][]byte{{130, 0, 0, 4}, {200, 0, 0, 4}}, 5},
		{1, [][]byte{{70, 0, 0, 4}, beat}, 5},
		{0, [][]byte{{20, 0, 0, 4}, beat}, 5},
		{1, [][]byte{{20, 0, 0, 4}, {4, 0, 0, 0}}, 5},
		{0, [][]byte{{255, 0, 0, 4}}, 5},
		{0, nil, 5},
		// 4: the frame is not ok.
		{0, [][]byte{beat}, 4},
		{1, [][]byte{init}, 4},
		{0, [][]byte{init, init}, 4},
		{0, [][]byte{init, beat}, 4},
		{1, [][]byte{beat, init}, 4},
		{1, [][]byte{done, beat}, 4},
		{1, [][]byte{beat, done}, 4},
		{1, slices.Repeat([][]byte{beat}, 8), 0},
		{1, slices.Repeat([][]byte{beat}, 9), 4},
		{0, [][]byte{{200, 0, 0, 4}, beat}, 4},
		// What comes first of several: 3 ahead of 5 and of 4.
		{0, [][]byte{beat, {4, 0, 0, 0}}, 3},
		{1, append(slices.Repeat([][]byte{beat}, 9), []byte{4, 0, 0, 0}), 3},
		{1, [][]byte{{130, 0, 0, 4}, {4, 0, 0, 0}}, 3},
		// Others count for nothing: an only chunk stays the only one.
		{0, [][]byte{{130, 0, 0, 4}, init, {20, 0, 0, 4}, beat}, 0},
		{1, [][]byte{done, {200, 0, 0, 4}}, 0},
		{1, append(slices.Repeat([][]byte{beat, {130, 0, 0, 4}}, 8), []byte{130, 9, 0, 4}), 0},
	} {
		b := rawFrame(1, 2, c.tag, c.chunks...)
		got, told, code := impl.FrmRead(b)
		if code != c.want {
			t.Errorf("case %d: %v: %d, want %d", i, b, code, c.want)
		}
		if code != 0 && (len(told) != 0 || !sameFrames(got, impl.FrmPacket{})) {
			t.Errorf("case %d: beside a code there are %v and %v", i, got, told)
		}
	}
}

// P42: what nobody knows and may be skipped does not show, wherever it stands and whatever it holds.
func TestFrmReadSkips(t *testing.T) {
	frames := goodFrames()
	for kind := 128; kind < 256; kind++ {
		for size := range 9 {
			p := frames[(kind*9+size)%len(frames)]
			var chunks [][]byte
			for _, c := range p.Chunks {
				chunks = append(chunks, rawChunk(c.Kind, c.Flags, slowBehind(c)))
			}
			for at := range len(chunks) + 1 {
				odd := slices.Insert(slices.Clone(chunks), at, rawChunk(kind, kind%5*63, counted(size)))
				got, told, code := impl.FrmRead(rawFrame(p.From, p.To, p.Tag, odd...))
				var want []int
				if kind >= 192 {
					want = []int{kind}
				}
				if code != 0 || !sameFrames(got, p) || !slices.Equal(told, want) {
					t.Fatalf("%v at %d: %v, %v, %d, want %v, %v", odd, at, got, told, code, p, want)
				}
			}
		}
	}
}

// Kinds of all 256, ahead of a beat, behind one, and between two.
func TestFrmReadOfAllKinds(t *testing.T) {
	beat := rawChunk(impl.FrmBeat, 0, []byte{1})
	for kind := range 256 {
		if slices.Contains(kindsKnown, kind) {
			continue
		}
		reported := kind >= 64 && kind <= 127 || kind >= 192
		odd := rawChunk(kind, 0, nil)
		for i, c := range []struct {
			chunks       [][]byte
			beats, ahead int
		}{
			{[][]byte{odd, beat}, 1, 0},
			{[][]byte{beat, odd}, 1, 1},
			{[][]byte{beat, odd, beat}, 2, 1},
		} {
			got, told, code := impl.FrmRead(rawFrame(1, 2, 3, c.chunks...))
			beats, want, tell := c.beats, 0, []int{kind}
			if kind < 128 {
				beats = c.ahead
			}
			if beats == 0 {
				want = 5
			}
			if want != 0 || !reported {
				tell = nil
			}
			if code != want || len(got.Chunks) != beats || !slices.Equal(told, tell) {
				t.Errorf("kind %d, case %d: %v, %v, %d", kind, i, got, told, code)
			}
		}
	}
}

func TestFrmReadReportsInOrder(t *testing.T) {
	beat := rawChunk(impl.FrmBeat, 0, []byte{1})
	b := rawFrame(1, 2, 3, rawChunk(255, 1, counted(3)), rawChunk(192, 0, nil), beat, rawChunk(191, 0, nil), rawChunk(255, 0, nil), rawChunk(127, 0, nil), rawChunk(193, 0, nil), beat)
	got, told, code := impl.FrmRead(b)
	if code != 0 || len(got.Chunks) != 1 || !slices.Equal(told, []int{255, 192, 255, 127}) {
		t.Errorf("%v, %v, %d", got, told, code)
	}
}

// oddBytes are frames with whatever was turned in them, put in, cut out or doubled, and bytes by chance; mostly with a right sum.
func oddBytes() [][]byte {
	chance := rand.New(rand.NewSource(5))
	frames := goodFrames()
	var list [][]byte
	for n := range 40000 {
		b := slowFrame(frames[chance.Intn(len(frames))])
		for range n % 4 {
			at := 4 * chance.Intn(len(b)/4)
			switch chance.Intn(6) {
			case 0:
				b[at+chance.Intn(4)] = byte(chance.Intn(256))
			case 1:
				b[at+chance.Intn(4)] ^= 1 << chance.Intn(8)
			case 2:
				b = slices.Insert(b, at, byte(chance.Intn(256)), 0, 0, 4)
			case 3:
				b = b[:max(at, 12)]
			case 4:
				b = slices.Insert(b, at, b[at:]...)
			default:
				b = append(b, slowFrame(frames[chance.Intn(len(frames))])[12:]...)
			}
		}
		if n%50 == 49 {
			b = make([]byte, chance.Intn(60))
			chance.Read(b)
		}
		if len(b) >= 12 && n%60 != 59 {
			b = summed(b)
		}
		list = append(list, b)
	}
	return list
}

// P15: whatever bytes come are refused, or are the writing of what is read.
func TestFrmReadOfWhateverComes(t *testing.T) {
	codes := map[int]int{}
	skipped := 0
	for _, b := range oddBytes() {
		kept := slices.Clone(b)
		got, told, code := impl.FrmRead(b)
		if !bytes.Equal(b, kept) {
			t.Fatalf("%v: its argument is %v now", kept, b)
		}
		codes[code]++
		p, tell, want := slowRead(b)
		if code != want || !sameFrames(got, p) || !slices.Equal(told, tell) {
			t.Fatalf("%v: %v, %v, %d, want %v, %v, %d", b, got, told, code, p, tell, want)
		}
		if code != 0 {
			continue
		}
		again := impl.FrmWrite(got)
		if !impl.FrmOk(got) || len(again) == 0 {
			t.Fatalf("%v: what is read is not ok: %v", b, got)
		}
		if len(again) != len(b) {
			skipped++
		} else if !bytes.Equal(again, b) {
			t.Fatalf("%v: written as %v", b, again)
		}
		for _, kind := range told {
			if slices.Contains(kindsKnown, kind) {
				t.Fatalf("%v: %d is known", b, kind)
			}
		}
	}
	for code := range 6 {
		if codes[code] < 50 {
			t.Errorf("the code %d came %d times alone", code, codes[code])
		}
	}
	if skipped < 50 {
		t.Errorf("%d were skipped alone", skipped)
	}
}

// fullRoom fills all bytes of a list, spare room included, with a byte.
func fullRoom(b []byte) {
	b = b[:cap(b)]
	for i := range b {
		b[i] = 99
	}
}

func TestFrmAnswersAreNewMemory(t *testing.T) {
	for _, p := range goodFrames() {
		b := impl.FrmWrite(p)
		want := slowFrame(p)
		q, _, _ := impl.FrmRead(b)
		fullRoom(b)
		if !sameFrames(q, p) {
			t.Fatalf("%v: what is read lies in what was read", p)
		}
		fullRoom(impl.FrmWrite(p))
		if !bytes.Equal(slowFrame(p), want) {
			t.Fatalf("%v: what is written lies in the frame", p)
		}
		for i, c := range q.Chunks {
			fullRoom(c.Body)
			for j := range c.Gaps[:cap(c.Gaps)] {
				c.Gaps[:cap(c.Gaps)][j] = impl.FrmGap{From: 9, To: 9}
			}
			for j := range c.Doubles[:cap(c.Doubles)] {
				c.Doubles[:cap(c.Doubles)][j] = 9
			}
			if i+1 < len(q.Chunks) && !sameChunks(q.Chunks[i+1], p.Chunks[i+1]) {
				t.Fatalf("%v: two chunks that are read lie in each other", p)
			}
		}
		again, _, _ := impl.FrmRead(want)
		if !sameFrames(again, p) {
			t.Fatalf("%v: what was answered shows in the next answer", p)
		}
	}
}

func TestFrmReportedKindsAreNewMemory(t *testing.T) {
	b := rawFrame(1, 2, 3, rawChunk(impl.FrmBeat, 0, nil), rawChunk(200, 0, nil))
	_, told, _ := impl.FrmRead(b)
	for i := range told {
		told[i] = 7
	}
	if _, again, _ := impl.FrmRead(b); !slices.Equal(again, []int{200}) {
		t.Errorf("%v", again)
	}
}

func TestFrmArgumentsStay(t *testing.T) {
	for _, p := range goodFrames() {
		room := slices.Grow(slices.Clone(p.Chunks), 2)
		spare := room[:len(room)+2]
		spare[len(room)] = impl.FrmChunk{Kind: 77}
		body := append(counted(9), 55, 56)
		p.Chunks = room
		if len(room[0].Body) == 9 {
			room[0].Body = body[:9:11]
		}
		kept := slices.Clone(p.Chunks)
		impl.FrmOk(p)
		impl.FrmChunkOk(p.Chunks[0])
		impl.FrmWrite(p)
		if !slices.EqualFunc(p.Chunks, kept, sameChunks) || spare[len(room)].Kind != 77 || !bytes.Equal(body, append(counted(9), 55, 56)) {
			t.Fatalf("%v: its argument is another one now", p)
		}
		b := append(slowFrame(p), 66, 67)
		impl.FrmRead(b[:len(b)-2])
		if !bytes.Equal(b, append(slowFrame(p), 66, 67)) {
			t.Fatalf("%v: its bytes are others now", p)
		}
	}
}
