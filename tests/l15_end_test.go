package tests

import (
	"fmt"
	"math"
	"math/rand"
	"slices"
	"strconv"
	"strings"
	"testing"

	"loop.example/trunk/impl"
)

// wire is what the functions of an end tell; code is a code, or what has happened.
type wire struct {
	end   impl.TrunkEnd
	sends []impl.TrunkSend
	units []impl.DatUnit
	code  int
}

func wireOf(e impl.TrunkEnd, sends []impl.TrunkSend, code int) wire {
	return wire{end: e, sends: sends, code: code}
}

func heardOf(e impl.TrunkEnd, sends []impl.TrunkSend, units []impl.DatUnit, code int) wire {
	return wire{e, sends, units, code}
}

func sameWires(a wire, b wire) bool {
	return sameValue(a.end, b.end) && sameValue(a.sends, b.sends) && sameValue(a.units, b.units) && a.code == b.code
}

func slowTrunkOk(e impl.TrunkEnd) bool {
	if !slowEndOk(e.Line) || len(e.Ways) != 2 || len(e.Beaten) != 2 {
		return false
	}
	for at, w := range e.Ways {
		if !slowWayOk(w) || w.Addr != e.Line.Peer+e.Line.Peer+at {
			return false
		}
	}
	if e.Line.State != 3 {
		return sameValue(e.Out, impl.DatOut{}) && sameValue(e.In, impl.DatIn{}) && e.Left == 0 && e.Beat == 0
	}
	if !slowOutOk(e.Out) || !slowInOk(e.In) || e.Out.Streams != e.Line.Streams || e.In.Streams != e.Line.Streams {
		return false
	}
	if len(e.Out.Flight) == 0 {
		return e.Left == 0 && e.Beat >= 1 && e.Beat <= 4
	}
	return e.Left >= 1 && e.Left <= 16 && e.Beat >= 1 && e.Beat <= 4
}

func slowBare(line impl.AscEnd) impl.TrunkEnd {
	ways := []impl.PthWay{{Addr: 2 * line.Peer, On: true, Rto: 3}, {Addr: 2*line.Peer + 1, On: true, Rto: 3}}
	return impl.TrunkEnd{Line: line, Ways: ways, Beaten: []bool{false, false}}
}

func slowFresh(line impl.AscEnd) impl.TrunkEnd {
	e := slowBare(line)
	e.Out = impl.DatOut{Streams: line.Streams, Next: line.Tsn, Ssns: make([]int, line.Streams)}
	e.In = impl.DatIn{Streams: line.Streams, Cum: onward(line.PeerTsn, -1), Ssns: make([]int, line.Streams)}
	e.Beat = 4
	return e
}

// slowWayLost is a way that was lost once more.
func slowWayLost(w impl.PthWay) impl.PthWay {
	if w.Errors < 3 {
		w.Errors++
	}
	w.On = w.Errors < 3
	w.Rto += w.Rto
	if w.Rto > 16 {
		w.Rto = 16
	}
	return w
}

func slowAscTick(e impl.AscEnd) answer {
	if e.Left > 1 {
		e.Left--
		return answer{end: e}
	}
	if e.Left == 0 {
		return answer{end: e}
	}
	if e.Tries == 4 {
		if e.State < 3 {
			return answer{end: bareOf(e), code: 3}
		}
		return answer{end: bareOf(e)}
	}
	again := answer{end: e, says: repeated(e)}
	again.end.Tries++
	again.end.Left = 3
	return again
}

// takenBy is the way to be taken: the second one, just if it alone is on.
func takenBy(e impl.TrunkEnd) int {
	if !e.Ways[0].On && e.Ways[1].On {
		return 1
	}
	return 0
}

func (s *wire) says(way int, frames ...impl.FrmPacket) {
	for _, f := range frames {
		s.sends = append(s.sends, impl.TrunkSend{Way: way, Bytes: slowFrame(f)})
	}
}

// tells says a frame of the epoch.
func (s *wire) tells(way int, chunks ...impl.FrmChunk) {
	s.says(way, impl.FrmPacket{From: s.end.Line.Me, To: s.end.Line.Peer, Tag: s.end.Line.PeerTag, Chunks: chunks})
}

func (s *wire) times() {
	if len(s.end.Out.Flight) == 0 {
		s.end.Left = 0
	} else if s.end.Left == 0 {
		s.end.Left = s.end.Ways[takenBy(s.end)].Rto
	}
}

func (s *wire) bundles(way int, pieces []impl.DatPiece) {
	var chunks []impl.FrmChunk
	for at, p := range pieces {
		chunks = append(chunks, chunkOf(p))
		if len(chunks) == 3 || at+1 == len(pieces) {
			s.tells(way, chunks...)
			chunks = nil
		}
	}
}

func (s *wire) flushes() {
	out, pieces := slowSend(s.end.Out)
	s.end.Out = out
	s.times()
	s.bundles(takenBy(s.end), pieces)
}

func slowTrunkStart(e impl.TrunkEnd, tag int, tsn int) wire {
	if !slowTrunkOk(e) {
		return wire{code: 1}
	}
	s := wire{end: roomy(e)}
	line := &s.end.Line
	if tag <= line.Last || tag > 4294967295 || !long.has(tsn) {
		s.code = 2
		return s
	}
	if line.State != 0 {
		s.code = 3
		return s
	}
	line.State, line.Tag, line.Tsn, line.Left = 1, tag, tsn, 3
	s.says(0, repeated(*line)...)
	return s
}

func slowTrunkHear(e impl.TrunkEnd, way int, b []byte, now int, tag int, tsn int) wire {
	if !slowTrunkOk(e) {
		return wire{}
	}
	s := wire{end: roomy(e)}
	p, _, code := slowRead(b)
	if code != 0 || way != 0 && way != 1 || now < 0 || now > 1000000 {
		return s
	}
	a := slowHear(s.end.Line, p, now, tag, tsn)
	s.end.Line = a.end
	s.code = a.code
	s.says(way, a.says...)
	switch a.code {
	case 1, 2:
		s.end = slowFresh(a.end)
	case 3, 4:
		s.end = slowBare(a.end)
	case 5:
		data := false
		for _, c := range p.Chunks {
			s.hears(way, now, c)
			data = data || c.Kind == 0
		}
		if data {
			cum, gaps := slowAck(s.end.In)
			s.tells(way, impl.FrmChunk{Kind: 3, Tsn: cum, Window: 4096, Gaps: gaps})
		}
		s.flushes()
	}
	return s
}

func (s *wire) hears(way int, now int, c impl.FrmChunk) {
	switch c.Kind {
	case 0:
		p := impl.DatPiece{Tsn: c.Tsn, Stream: c.Stream, Ssn: c.Ssn, Body: c.Body, Loose: c.Flags >= 4, First: c.Flags%4 >= 2, Last: c.Flags%2 == 1}
		in, units, _ := slowTake(s.end.In, p)
		s.end.In = in
		s.units = append(s.units, units...)
	case 3:
		out, code := slowAcked(s.end.Out, c.Tsn, c.Gaps)
		if code != 0 {
			return
		}
		if len(out.Flight) < len(s.end.Out.Flight) {
			s.end.Ways[way] = slowHeard(s.end.Ways[way], s.end.Ways[way].Srtt/8)
			s.end.Left = 0
		}
		s.end.Out = out
		s.times()
	case 4:
		s.tells(way, impl.FrmChunk{Kind: 5, Body: c.Body})
	case 5:
		if len(c.Body) >= 4 && small(c.Body[:4]) <= now && s.end.Beaten[way] {
			s.end.Ways[way] = slowHeard(s.end.Ways[way], now-small(c.Body[:4]))
			s.end.Beaten[way] = false
		}
	}
}

func slowTrunkPush(e impl.TrunkEnd, u impl.DatUnit) wire {
	if !slowTrunkOk(e) {
		return wire{code: 1}
	}
	s := wire{end: roomy(e)}
	switch {
	case e.Line.State != 3:
		s.code = 3
	case !slowUnitOk(u) || u.Stream >= e.Out.Streams:
		s.code = 2
	case len(e.Out.Queue) == 12:
		s.code = 5
	default:
		s.end.Out.Queue = append(s.end.Out.Queue, u)
		s.flushes()
	}
	return s
}

func slowTrunkTick(e impl.TrunkEnd, now int) wire {
	if !slowTrunkOk(e) {
		return wire{}
	}
	s := wire{end: roomy(e)}
	if now < 0 || now > 1000000 {
		return s
	}
	if e.Line.State != 3 {
		a := slowAscTick(s.end.Line)
		s.end.Line, s.code = a.end, a.code
		s.says(a.end.Tries%2, a.says...)
		return s
	}
	if s.end.Left > 0 {
		s.end.Left--
		if s.end.Left == 0 {
			s.again()
		}
	}
	s.end.Beat--
	if s.end.Beat == 0 {
		s.end.Beat = 4
		for way := range 2 {
			if s.end.Beaten[way] {
				s.end.Ways[way] = slowWayLost(s.end.Ways[way])
			}
			s.tells(way, impl.FrmChunk{Kind: 4, Body: bigFirst(now, 4)})
			s.end.Beaten[way] = true
		}
	}
	if !s.end.Ways[0].On && !s.end.Ways[1].On {
		s.says(0, saidBy(s.end.Line, s.end.Line.PeerTag, impl.FrmChunk{Kind: 6})...)
		s.end, s.code = slowBare(bareOf(s.end.Line)), 3
	}
	return s
}

// again says again what was not answered: not by the way that was just lost, if the other one is on.
func (s *wire) again() {
	lost := takenBy(s.end)
	s.end.Ways[lost] = slowWayLost(s.end.Ways[lost])
	out, pieces := slowAgain(s.end.Out, 4)
	s.end.Out = out
	s.times()
	way := takenBy(s.end)
	if way == lost && s.end.Ways[1-lost].On {
		way = 1 - lost
	}
	s.bundles(way, pieces)
}

func slowTrunkClose(e impl.TrunkEnd, hard bool) wire {
	if !slowTrunkOk(e) {
		return wire{code: 1}
	}
	s := wire{end: roomy(e)}
	line := s.end.Line
	if line.State != 3 {
		s.code = 3
		return s
	}
	way := takenBy(s.end)
	if hard {
		s.says(way, saidBy(line, line.PeerTag, impl.FrmChunk{Kind: 6})...)
		s.end = slowBare(bareOf(line))
		return s
	}
	line.State, line.PeerTsn, line.Left = 4, s.end.In.Cum, 3
	s.says(way, repeated(line)...)
	s.end = slowBare(line)
	return s
}

// checkWire holds an answer against the slow one, and against what is said of all answers.
func checkWire(t *testing.T, what string, was impl.TrunkEnd, got wire, want wire) wire {
	t.Helper()
	if !sameWires(got, want) {
		t.Fatalf("%s of %v:\n%v, want\n%v", what, was, got, want)
	}
	if slowTrunkOk(was) && !impl.TrunkEndOk(got.end) {
		t.Fatalf("%s of %v: %v is not ok", what, was, got.end)
	}
	for _, s := range got.sends {
		if _, _, code := impl.FrmRead(s.Bytes); code != 0 || s.Way != 0 && s.Way != 1 {
			t.Fatalf("%s of %v: %v goes out, which has the code %d", what, was, s, code)
		}
	}
	return got
}

func checkEndStart(t *testing.T, e impl.TrunkEnd, tag int, tsn int) wire {
	t.Helper()
	return checkWire(t, fmt.Sprint("TrunkStart ", tag, " ", tsn), e, wireOf(impl.TrunkStart(e, tag, tsn)), slowTrunkStart(e, tag, tsn))
}

func checkEndHear(t *testing.T, e impl.TrunkEnd, way int, b []byte, now int, tag int, tsn int) wire {
	t.Helper()
	got := heardOf(impl.TrunkHear(e, way, b, now, tag, tsn))
	p, _, code := impl.FrmRead(b)
	checkWire(t, fmt.Sprint("TrunkHear ", way, " ", p, " ", code, " ", now, " ", tag, " ", tsn), e, got, slowTrunkHear(e, way, b, now, tag, tsn))
	checkOnlyUp(t, e, b, got)
	return got
}

// checkOnlyUp is P30: what cannot be read turns nothing; units come only over a line that is up, by frames under its Tag.
func checkOnlyUp(t *testing.T, e impl.TrunkEnd, b []byte, got wire) {
	t.Helper()
	p, _, code := impl.FrmRead(b)
	if code != 0 && slowTrunkOk(e) && !sameWires(got, wire{end: e}) {
		t.Fatalf("%v is turned by %v: %v", e, b, got)
	}
	if len(got.units) > 0 && (e.Line.State != impl.AscUp || p.Tag != e.Line.Tag || got.code != impl.AscHeard) {
		t.Fatalf("%v is told %v by %v", e, got.units, p)
	}
}

func checkEndPush(t *testing.T, e impl.TrunkEnd, u impl.DatUnit) wire {
	t.Helper()
	got := checkWire(t, fmt.Sprint("TrunkPush ", u), e, wireOf(impl.TrunkPush(e, u)), slowTrunkPush(e, u))
	if got.code == 0 {
		checkSaidInOrder(t, e, u, got.end)
	}
	return got
}

// checkSaidInOrder is P32: the unit waits behind all others, or is under way behind them, and nothing that was under way is another one.
func checkSaidInOrder(t *testing.T, e impl.TrunkEnd, u impl.DatUnit, next impl.TrunkEnd) {
	t.Helper()
	waited := append(slices.Clone(e.Out.Queue), u)
	said := len(waited) - len(next.Out.Queue)
	if said < 0 || !sameValue(next.Out.Queue, waited[said:]) {
		t.Fatalf("%v is given to %v: %v waits", u, e, next.Out.Queue)
	}
	if len(next.Out.Flight) < len(e.Out.Flight) || !sameValue(next.Out.Flight[:len(e.Out.Flight)], e.Out.Flight) {
		t.Fatalf("%v is given to %v: %v is under way", u, e, next.Out.Flight)
	}
	new := next.Out.Flight[len(e.Out.Flight):]
	for _, w := range waited[:said] {
		for _, body := range slowBodies(w) {
			if len(new) == 0 || new[0].Mark != w.Mark || string(new[0].Piece.Body) != string(body) {
				t.Fatalf("%v is given to %v: %v is under way", u, e, next.Out.Flight)
			}
			new = new[1:]
		}
	}
	if len(new) > 0 {
		t.Fatalf("%v is given to %v: %v is under way", u, e, next.Out.Flight)
	}
}

func checkEndTick(t *testing.T, e impl.TrunkEnd, now int) wire {
	t.Helper()
	return checkWire(t, fmt.Sprint("TrunkTick ", now), e, wireOf(impl.TrunkTick(e, now)), slowTrunkTick(e, now))
}

// checkEndClose is P63 too: a bare end is left.
func checkEndClose(t *testing.T, e impl.TrunkEnd, hard bool) wire {
	t.Helper()
	got := checkWire(t, fmt.Sprint("TrunkClose ", hard), e, wireOf(impl.TrunkClose(e, hard)), slowTrunkClose(e, hard))
	if got.code == 0 && !sameValue(got.end, slowBare(got.end.Line)) {
		t.Fatalf("%v closes: %v is left", e, got.end)
	}
	return got
}

// spelt is what goes out, in short: the way, and a letter and a number for each chunk of a frame.
func spelt(t *testing.T, sends []impl.TrunkSend) string {
	t.Helper()
	var out []string
	for _, s := range sends {
		p, _, code := impl.FrmRead(s.Bytes)
		if code != 0 {
			t.Fatalf("%v cannot be read", s)
		}
		var words []string
		for _, c := range p.Chunks {
			word := map[int]string{0: "D", 1: "I", 2: "J", 3: "S", 4: "B", 5: "C", 6: "X", 7: "H", 8: "K", 10: "E", 11: "F", 14: "L"}[c.Kind]
			if c.Kind == impl.FrmData || c.Kind == impl.FrmSack || c.Kind == impl.FrmShut {
				word += strconv.Itoa(c.Tsn)
			}
			if c.Kind == impl.FrmBeat || c.Kind == impl.FrmBeatAck {
				word += strconv.Itoa(small(c.Body))
			}
			for _, g := range c.Gaps {
				word += fmt.Sprintf("(%d-%d)", g.From, g.To)
			}
			words = append(words, word)
		}
		out = append(out, fmt.Sprintf("%d/%d %s", s.Way, p.Tag, strings.Join(words, "+")))
	}
	return strings.Join(out, ", ")
}

// upEnd is an end that has just come up: of the node 1 to the node 3, under 10, the other one's tag being 20.
func upEnd(turns ...func(e *impl.TrunkEnd)) impl.TrunkEnd {
	e := slowFresh(endIn(impl.AscUp))
	for _, turn := range turns {
		turn(&e)
	}
	return e
}

// flies has so many pieces under way, timed for so many ticks; the last one has the number ahead of next.
func flies(next int, count int, left int) func(e *impl.TrunkEnd) {
	return func(e *impl.TrunkEnd) {
		e.Out.Next, e.Out.Flight, e.Left = next, flightOf(next, count), left
	}
}

// errs has ways that were lost so often.
func errs(first int, second int) func(e *impl.TrunkEnd) {
	return func(e *impl.TrunkEnd) {
		for at, errors := range []int{first, second} {
			e.Ways[at].Errors, e.Ways[at].On = errors, errors < 3
		}
	}
}

func beaten(first bool, second bool) func(e *impl.TrunkEnd) {
	return func(e *impl.TrunkEnd) { e.Beaten = []bool{first, second} }
}

func beatIn(ticks int) func(e *impl.TrunkEnd) {
	return func(e *impl.TrunkEnd) { e.Beat = ticks }
}

func waiting(sizes ...int) func(e *impl.TrunkEnd) {
	return func(e *impl.TrunkEnd) {
		for at, size := range sizes {
			e.Out.Queue = append(e.Out.Queue, unitOf(50+at, at%e.Out.Streams, size, at%3 == 2))
		}
	}
}

// framed is a frame to an end, under its tag.
func framed(e impl.TrunkEnd, chunks ...impl.FrmChunk) []byte {
	return slowFrame(toEnd(e.Line, e.Line.Tag, chunks...))
}

// busyEnd has something of all.
func busyEnd() impl.TrunkEnd {
	e := slowFresh(endIn(impl.AscUp))
	e.Line.Streams = 2
	e.Out, e.In, e.Left, e.Beat = goodOut(), goodIn(), 5, 3
	e.Ways[0] = impl.PthWay{Addr: 6, On: true, Errors: 1, Srtt: 30, Var: 8, Rto: 11}
	e.Ways[1] = impl.PthWay{Addr: 7, Errors: 3, Srtt: 128, Var: 64, Rto: 16}
	e.Beaten = []bool{true, false}
	return e
}

// someEnd is an end that is ok, of any state, each of its numbers often at a bound.
func someEnd(chance *rand.Rand) impl.TrunkEnd {
	all := edgeEnds()
	line := all[chance.Intn(len(all))]
	if chance.Intn(5) > 0 {
		line = all[9+chance.Intn(3)]
	}
	line.Peer = []int{3, line.Peer % 32768, 32767}[chance.Intn(3)]
	e := slowBare(line)
	for at := range e.Ways {
		errors := []int{0, 0, 0, 1, 2, 2, 3}[chance.Intn(7)]
		e.Ways[at] = impl.PthWay{
			Addr: e.Ways[at].Addr, On: errors < 3, Errors: errors, Rto: []int{2, 3, 8, 9, 16}[chance.Intn(5)],
			Srtt: []int{0, 7, 8, 16, 60, 128}[chance.Intn(6)], Var: []int{0, 1, 4, 9, 64}[chance.Intn(5)],
		}
		e.Beaten[at] = chance.Intn(2) == 0
	}
	if line.State != impl.AscUp {
		return e
	}
	e.Out, e.In = someOut(chance), someIn(chance)
	for e.In.Streams != e.Out.Streams {
		e.In = someIn(chance)
	}
	e.Line.Wish, e.Line.Streams = max(e.Line.Wish, e.Out.Streams), e.Out.Streams
	e.Beat = []int{1, 1, 2, 4}[chance.Intn(4)]
	if len(e.Out.Flight) > 0 {
		e.Left = []int{1, 1, 2, 15, 16}[chance.Intn(5)]
	}
	return e
}

// bytesFor are bytes for an end, often such that it hears.
func bytesFor(chance *rand.Rand, e impl.TrunkEnd, now int) []byte {
	var chunks []impl.FrmChunk
	for range 1 + chance.Intn(8) {
		chunks = append(chunks, someChunk(chance, e, now))
	}
	if alone(chunks[0].Kind) {
		chunks = chunks[:1]
	}
	chunks = slices.DeleteFunc(chunks, func(c impl.FrmChunk) bool { return len(chunks) > 1 && alone(c.Kind) })
	p := toEnd(e.Line, []int{e.Line.Tag, e.Line.Tag, e.Line.Tag, e.Line.Tag, e.Line.PeerTag, 77}[chance.Intn(6)], chunks...)
	switch p.Chunks[0].Kind {
	case impl.FrmInit:
		p.Tag = 0
	case impl.FrmEcho:
		p.Tag = 4294967295
	}
	if p.Tag == 0 && p.Chunks[0].Kind != impl.FrmInit {
		p.Tag = 5
	}
	if chance.Intn(20) == 0 {
		p.From, p.To = p.To, p.From
	}
	b := slowFrame(p)
	if chance.Intn(12) == 0 {
		b[chance.Intn(len(b))] ^= 1 << chance.Intn(8)
	}
	return b
}

func someChunk(chance *rand.Rand, e impl.TrunkEnd, now int) impl.FrmChunk {
	n := chance.Intn(100)
	if e.Line.State == impl.AscUp && n < 60 {
		switch {
		case n < 30:
			return chunkOf(somePiece(chance, e.In, onward(e.In.Cum, []int{1, 1, 1, 2, 3, 9, 16, 17, 0, -1}[chance.Intn(10)])))
		case n < 50:
			cum, gaps := someAnswer(chance, e.Out)
			if slowGapsOk(gaps) {
				return impl.FrmChunk{Kind: impl.FrmSack, Tsn: cum, Gaps: gaps, Window: chance.Intn(9), Doubles: []int{4, 4}[:chance.Intn(3)]}
			}
		}
		return impl.FrmChunk{Kind: impl.FrmBeatAck, Body: append(bigFirst(max(now+chance.Intn(8)-6, 0), 4), 9, 9, 9)[:chance.Intn(8)]}
	}
	switch {
	case n < 70:
		return impl.FrmChunk{Kind: impl.FrmBeat, Body: counted(chance.Intn(17))}
	case n < 80:
		return impl.FrmChunk{Kind: impl.FrmAbort, Flags: chance.Intn(2)}
	case n < 86:
		k := impl.AscCookie{Me: e.Line.Me, Peer: e.Line.Peer, Tag: 4294967295, PeerTag: 60, Tsn: nexts[n%len(nexts)], PeerTsn: 4294967290, Streams: 1, Made: max(now-n%3, 0), OldTag: e.Line.Tag, OldPeerTag: e.Line.PeerTag}
		return impl.FrmChunk{Kind: impl.FrmEcho, Body: impl.AscBake(e.Line.Secret, k)}
	}
	return wordOf([]int{1, 2, 7, 8, 9, 11, 14}[n%7])
}

func TestTrunkConstants(t *testing.T) {
	if impl.TrunkBeat != 4 || impl.TrunkBundle != 3 {
		t.Errorf("%d, %d", impl.TrunkBeat, impl.TrunkBundle)
	}
}

func TestTrunkEndOpen(t *testing.T) {
	for _, me := range []int{-1, 0, 1, 3, 32767, 32768, 65535, 65536, math.MinInt, math.MaxInt} {
		for _, peer := range []int{-1, 0, 1, 3, 32766, 32767, 32768, 65535, 65536, math.MinInt, math.MaxInt} {
			for _, secret := range []int{-1, 0, 1, 7, 2147483646, 2147483647} {
				for _, wish := range []int{-1, 0, 1, 3, 8, 9} {
					want := impl.TrunkEnd{}
					// The address of the second way is short as well.
					if me >= 0 && me <= 65535 && peer >= 0 && peer <= 32767 && me != peer && secret >= 1 && secret <= 2147483646 && wish >= 1 && wish <= 8 {
						want = slowBare(impl.AscEnd{Me: me, Peer: peer, Secret: secret, Wish: wish})
					}
					got := impl.TrunkEndOpen(me, peer, secret, wish)
					if !sameValue(got, want) || impl.TrunkEndOk(got) != (len(want.Ways) == 2) {
						t.Fatalf("%d to %d, %d, %d: %v, want %v", me, peer, secret, wish, got, want)
					}
				}
			}
		}
	}
}

// goodTrunks are ok, at the edges that the document names.
func goodTrunks() map[string]impl.TrunkEnd {
	out := map[string]impl.TrunkEnd{"busy": busyEnd(), "fresh": upEnd()}
	for state := range 6 {
		e := slowBare(endIn(state))
		if state == impl.AscUp {
			continue
		}
		out["bare "+strconv.Itoa(state)] = e
		errs(3, 2)(&e)
		beaten(true, true)(&e)
		e.Ways[0].Rto, e.Ways[1].Srtt, e.Ways[1].Var = 16, 128, 64
		e.Out.Flight, e.Out.Queue, e.Out.Ssns = []impl.DatSent{}, []impl.DatUnit{}, []int{}
		e.In.Seen, e.In.Have, e.In.Ssns = []int{}, []impl.DatPiece{}, []int{}
		out["not up, and not bare "+strconv.Itoa(state)] = e
	}
	for _, left := range []int{1, 2, 16} {
		for _, count := range []int{1, 2, 8} {
			out[fmt.Sprint("flies ", count, " left ", left)] = upEnd(flies(3, count, left))
		}
	}
	for beat := 1; beat <= 4; beat++ {
		out["beat "+strconv.Itoa(beat)] = upEnd(beatIn(beat))
	}
	out["no way on"] = upEnd(errs(3, 3))
	out["waits"] = upEnd(waiting(1, 48, 16, 17))
	out["waits behind all that fly"] = upEnd(flies(3, 8, 7), waiting(1, 2, 3, 4, 5, 6, 7, 8, 9, 10, 11, 12))
	return out
}

// badTrunks are not ok, each in one of the ways that the document tells.
func badTrunks() map[string]impl.TrunkEnd {
	out := map[string]impl.TrunkEnd{"nothing": {}}
	spoil := func(name string, e impl.TrunkEnd, turn func(e *impl.TrunkEnd)) {
		e = roomy(e)
		turn(&e)
		out[name] = e
	}
	for at, line := range badEnds() {
		e := slowBare(line)
		if line.State == impl.AscUp {
			e = busyEnd()
			e.Line = line
		}
		spoil("line "+strconv.Itoa(at), e, func(e *impl.TrunkEnd) {})
	}
	for at, w := range badWays() {
		spoil("first way "+strconv.Itoa(at), busyEnd(), func(e *impl.TrunkEnd) { e.Ways[0] = w })
		w.Addr++
		spoil("second way "+strconv.Itoa(at), busyEnd(), func(e *impl.TrunkEnd) { e.Ways[1] = w })
		spoil("second way of a bare end "+strconv.Itoa(at), slowBare(endIn(0)), func(e *impl.TrunkEnd) { e.Ways[1] = w })
	}
	for name, e := range map[string]impl.TrunkEnd{"busy": busyEnd(), "fresh": upEnd(), "bare": slowBare(endIn(0)), "waits": slowBare(endIn(1)), "goes": slowBare(endIn(5))} {
		spoil(name+" no ways", e, func(e *impl.TrunkEnd) { e.Ways = nil })
		spoil(name+" one way", e, func(e *impl.TrunkEnd) { e.Ways = e.Ways[:1] })
		spoil(name+" three ways", e, func(e *impl.TrunkEnd) { e.Ways = append(e.Ways, impl.PthOpen(8)) })
		spoil(name+" none beaten", e, func(e *impl.TrunkEnd) { e.Beaten = nil })
		spoil(name+" one beaten", e, func(e *impl.TrunkEnd) { e.Beaten = e.Beaten[:1] })
		spoil(name+" three beaten", e, func(e *impl.TrunkEnd) { e.Beaten = append(e.Beaten, false) })
		spoil(name+" ways of another node", e, func(e *impl.TrunkEnd) { e.Ways[0].Addr, e.Ways[1].Addr = 2, 3 })
		spoil(name+" ways turned around", e, func(e *impl.TrunkEnd) { e.Ways[0].Addr, e.Ways[1].Addr = 7, 6 })
		spoil(name+" one way twice", e, func(e *impl.TrunkEnd) { e.Ways[1].Addr = 6 })
		spoil(name+" a node beyond all addresses", e, func(e *impl.TrunkEnd) {
			e.Line.Peer, e.Ways[0].Addr, e.Ways[1].Addr = 32768, 0, 1
		})
		for _, n := range []int{-1, 5, math.MinInt, math.MaxInt} {
			spoil(name+" Beat "+strconv.Itoa(n), e, func(e *impl.TrunkEnd) { e.Beat = n })
		}
		for _, n := range []int{-1, 17, math.MinInt, math.MaxInt} {
			spoil(name+" Left "+strconv.Itoa(n), e, func(e *impl.TrunkEnd) { e.Left = n })
		}
	}
	spoil("up and no beat", upEnd(), func(e *impl.TrunkEnd) { e.Beat = 0 })
	spoil("timed, and nothing under way", upEnd(), func(e *impl.TrunkEnd) { e.Left = 1 })
	spoil("not timed, and one under way", upEnd(flies(5, 1, 1)), func(e *impl.TrunkEnd) { e.Left = 0 })
	for name, o := range badOuts() {
		spoil("Out "+name, busyEnd(), func(e *impl.TrunkEnd) { e.Out = o })
	}
	for name, i := range badIns() {
		spoil("In "+name, busyEnd(), func(e *impl.TrunkEnd) { e.In = i })
	}
	spoil("fewer streams out", upEnd(), func(e *impl.TrunkEnd) { e.Out = impl.DatOutOpen(1, 3) })
	spoil("more streams out", upEnd(), func(e *impl.TrunkEnd) { e.Out = impl.DatOutOpen(1, 5) })
	spoil("fewer streams in", upEnd(), func(e *impl.TrunkEnd) { e.In = impl.DatInOpen(1, 3) })
	spoil("more streams in", upEnd(), func(e *impl.TrunkEnd) { e.In = impl.DatInOpen(1, 5) })
	spoil("other streams than the line", upEnd(), func(e *impl.TrunkEnd) { e.Out, e.In = impl.DatOutOpen(1, 3), impl.DatInOpen(1, 3) })
	for _, state := range []int{0, 1, 2, 4, 5} {
		e, at := slowBare(endIn(state)), " with the state "+strconv.Itoa(state)
		spoil("beats"+at, e, func(e *impl.TrunkEnd) { e.Beat = 1 })
		spoil("is timed"+at, e, func(e *impl.TrunkEnd) { e.Left = 1 })
		spoil("has sides"+at, e, func(e *impl.TrunkEnd) { e.Out, e.In = busyEnd().Out, busyEnd().In })
		spoil("sends"+at, e, func(e *impl.TrunkEnd) { e.Out = impl.DatOutOpen(1, 1) })
		spoil("gets"+at, e, func(e *impl.TrunkEnd) { e.In = impl.DatInOpen(1, 1) })
		spoil("Out.Streams"+at, e, func(e *impl.TrunkEnd) { e.Out.Streams = 1 })
		spoil("Out.Next"+at, e, func(e *impl.TrunkEnd) { e.Out.Next = 1 })
		spoil("Out.Flight"+at, e, func(e *impl.TrunkEnd) { e.Out.Flight = make([]impl.DatSent, 1) })
		spoil("Out.Queue"+at, e, func(e *impl.TrunkEnd) { e.Out.Queue = make([]impl.DatUnit, 1) })
		spoil("Out.Ssns"+at, e, func(e *impl.TrunkEnd) { e.Out.Ssns = make([]int, 1) })
		spoil("In.Streams"+at, e, func(e *impl.TrunkEnd) { e.In.Streams = 1 })
		spoil("In.Cum"+at, e, func(e *impl.TrunkEnd) { e.In.Cum = 1 })
		spoil("In.Seen"+at, e, func(e *impl.TrunkEnd) { e.In.Seen = make([]int, 1) })
		spoil("In.Have"+at, e, func(e *impl.TrunkEnd) { e.In.Have = make([]impl.DatPiece, 1) })
		spoil("In.Ssns"+at, e, func(e *impl.TrunkEnd) { e.In.Ssns = make([]int, 1) })
	}
	return out
}

func TestTrunkEndOkOfGoodEnds(t *testing.T) {
	for name, e := range goodTrunks() {
		if !slowTrunkOk(e) || !impl.TrunkEndOk(e) {
			t.Errorf("%s: %v is not ok", name, e)
		}
	}
}

// Each number of an end is set to numbers in and out of all limits, and to its neighbours.
func TestTrunkEndOkOfEachNumber(t *testing.T) {
	seen := map[bool]int{}
	for name, plain := range goodTrunks() {
		e := roomy(plain)
		for at, n := range numbersOf(&e) {
			was := *n
			for _, other := range append([]int{was - 1, was + 1, 3, 4, 5, 6, 16, 17}, wide...) {
				*n = other
				want := slowTrunkOk(e)
				seen[want]++
				if impl.TrunkEndOk(e) != want {
					t.Fatalf("%s, the number %d being %d: not %v of %v", name, at, other, want, e)
				}
			}
			*n = was
		}
	}
	if seen[true] < 500 || seen[false] < 500 {
		t.Errorf("%v", seen)
	}
}

// All functions at an end that is not ok: nothing, and the code 1 where codes are told.
func TestTrunkRefusesEndsThatAreNotOk(t *testing.T) {
	for name, e := range badTrunks() {
		if slowTrunkOk(e) || impl.TrunkEndOk(e) {
			t.Errorf("%s: %v is ok", name, e)
			continue
		}
		one := wire{code: 1}
		for _, got := range []wire{
			wireOf(impl.TrunkStart(e, 30, 300)), wireOf(impl.TrunkStart(e, -1, 300)), wireOf(impl.TrunkPush(e, unitOf(1, 0, 9, false))),
			wireOf(impl.TrunkPush(e, impl.DatUnit{})), wireOf(impl.TrunkClose(e, false)), wireOf(impl.TrunkClose(e, true)),
		} {
			if !sameWires(got, one) {
				t.Errorf("%s: %v", name, got)
			}
		}
		frames := []impl.FrmPacket{toEnd(e.Line, 0, wordOf(impl.FrmInit))}
		for _, kind := range kindsKnown {
			frames = append(frames, toEnd(e.Line, max(e.Line.Tag, 1), wordOf(kind)))
		}
		for _, f := range frames {
			if got := heardOf(impl.TrunkHear(e, 0, impl.FrmWrite(f), 5, 30, 300)); !sameWires(got, wire{}) {
				t.Errorf("%s hears %v: %v", name, f, got)
			}
		}
		for _, now := range []int{-1, 0, 5} {
			if got := wireOf(impl.TrunkTick(e, now)); !sameWires(got, wire{}) {
				t.Errorf("%s ticks: %v", name, got)
			}
		}
	}
}

func TestTrunkStartSaysTheFirstWord(t *testing.T) {
	e := impl.TrunkEndOpen(1, 3, 7, 5)
	got := checkEndStart(t, e, 30, 300)
	want := impl.AscEnd{Me: 1, Peer: 3, Secret: 7, Wish: 5, State: impl.AscWaits, Tag: 30, Tsn: 300, Left: 3}
	first := slowFrame(impl.FrmPacket{From: 1, To: 3, Chunks: []impl.FrmChunk{{Kind: impl.FrmInit, Tag: 30, Window: 4096, Stream: 5, Tsn: 300}}})
	if !sameWires(got, wire{end: slowBare(want), sends: []impl.TrunkSend{{Way: 0, Bytes: first}}}) {
		t.Errorf("%v", got)
	}
	// Whether the first way is on is not asked: nothing is known of ways of a line that is not up.
	errs(3, 0)(&e)
	if got := checkEndStart(t, e, 30, 300); spelt(t, got.sends) != "0/0 I" || got.code != 0 || got.end.Ways[0].On {
		t.Errorf("%v", got)
	}
	for _, n := range []int{0, 1, 4294967295} {
		if got := checkEndStart(t, impl.TrunkEndOpen(1, 3, 7, 5), max(n, 1), n); got.code != 0 || got.end.Line.Tsn != n {
			t.Errorf("%d: %v", n, got)
		}
	}
}

func TestTrunkStartRefuses(t *testing.T) {
	for _, e := range goodTrunks() {
		for _, tag := range []int{e.Line.Last, e.Line.Last + 1, e.Line.Tag, e.Line.Tag + 1, 0, -1, 4294967295, 4294967296, math.MinInt, math.MaxInt} {
			for _, tsn := range []int{0, 4294967295, -1, 4294967296, math.MinInt, math.MaxInt} {
				got := checkEndStart(t, e, tag, tsn)
				want := 0
				if e.Line.State != impl.AscClosed {
					want = 3
				}
				if tag <= e.Line.Last || tag > 4294967295 || tsn < 0 || tsn > 4294967295 {
					want = 2
				}
				if got.code != want || want != 0 && !sameWires(got, wire{end: e, code: want}) {
					t.Fatalf("%v starts with %d, %d: %v, want the code %d", e, tag, tsn, got, want)
				}
			}
		}
	}
}

// What cannot be read, comes by no way, or at no tick, turns nothing.
func TestTrunkHearOfNothing(t *testing.T) {
	for name, e := range goodTrunks() {
		frames := [][]byte{framed(e, wordOf(impl.FrmData)), framed(e, wordOf(impl.FrmBeat)), framed(e, impl.FrmChunk{Kind: impl.FrmAbort}), slowFrame(toEnd(e.Line, 0, wordOf(impl.FrmInit)))}
		for _, b := range frames {
			for _, way := range []int{-1, 2, 3, math.MinInt, math.MaxInt} {
				if got := checkEndHear(t, e, way, b, 5, 30, 300); !sameWires(got, wire{end: e}) {
					t.Errorf("%s by %d: %v", name, way, got)
				}
			}
			for _, now := range []int{-1, 1000001, math.MinInt, math.MaxInt} {
				if got := checkEndHear(t, e, 0, b, now, 30, 300); !sameWires(got, wire{end: e}) {
					t.Errorf("%s at %d: %v", name, now, got)
				}
			}
			turned := slices.Clone(b)
			turned[len(turned)-1] ^= 1
			for _, bad := range [][]byte{nil, b[:11], b[:12], b[:len(b)-1], turned, make([]byte, 704), append(slices.Clone(b), 0)} {
				if got := checkEndHear(t, e, 1, bad, 5, 30, 300); !sameWires(got, wire{end: e}) {
					t.Errorf("%s of %v: %v", name, bad, got)
				}
			}
			for _, now := range []int{0, 1000000} {
				for way := range 2 {
					checkEndHear(t, e, way, b, now, 30, 300)
				}
			}
		}
	}
}

// AscRose, AscAnew, AscLost and AscGone, each at an end that has something of all.
func TestTrunkHearBeginsAndEnds(t *testing.T) {
	taken := impl.AscEnd{Me: 1, Peer: 3, Secret: 7, Wish: 5, Last: 30, State: impl.AscUp, Tag: 30, PeerTag: 40, Tsn: 300, PeerTsn: 0, Streams: 2}
	echo := cookieFor(func(k *impl.AscCookie) { k.PeerTsn, k.OldTag, k.OldPeerTag = 0, 10, 20 })
	worn := func(e impl.TrunkEnd) impl.TrunkEnd {
		e.Ways, e.Beaten = busyEnd().Ways, busyEnd().Beaten
		return e
	}
	own := endIn(impl.AscUp)
	goes := busyEnd().Line
	goes.State, goes.Tries, goes.Left = impl.AscGoes, 0, 3
	for _, x := range []struct {
		name  string
		e     impl.TrunkEnd
		frame impl.FrmPacket
		want  impl.TrunkEnd
		sends string
		code  int
	}{
		{"rises by a cookie", worn(slowBare(endIn(0))), toEnd(own, 30, echo), slowFresh(taken), "1/40 F", impl.AscRose},
		{"rises by an answer", worn(slowBare(endIn(2))), toEnd(own, 10, impl.FrmChunk{Kind: impl.FrmEchoAck}), slowFresh(own), "", impl.AscRose},
		{"anew", busyEnd(), toEnd(own, 30, echo), slowFresh(taken), "1/40 F", impl.AscAnew},
		{"lost", busyEnd(), toEnd(own, 10, impl.FrmChunk{Kind: impl.FrmAbort}), slowBare(bareOf(own)), "", impl.AscLost},
		{"lost by the other tag", busyEnd(), toEnd(own, 20, impl.FrmChunk{Kind: impl.FrmAbort, Flags: 1}), slowBare(bareOf(own)), "", impl.AscLost},
		{"waits in vain", worn(slowBare(endIn(1))), toEnd(own, 10, impl.FrmChunk{Kind: impl.FrmAbort}), slowBare(bareOf(endIn(1))), "", impl.AscLost},
		{"gone", busyEnd(), toEnd(own, 10, impl.FrmChunk{Kind: impl.FrmShut, Tsn: 9}), slowBare(goes), "1/20 K", impl.AscGone},
		{"closes", worn(slowBare(endIn(5))), toEnd(own, 10, impl.FrmChunk{Kind: impl.FrmShutDone}), worn(slowBare(bareOf(own))), "", impl.AscNone},
		{"a first word", busyEnd(), toEnd(own, 0, wordOf(impl.FrmInit)), busyEnd(), "1/40 J", impl.AscNone},
		{"a strange tag", busyEnd(), toEnd(own, 11, wordOf(impl.FrmData)), busyEnd(), "1/11 X", impl.AscNone},
		{"a word for another state", busyEnd(), toEnd(own, 10, impl.FrmChunk{Kind: impl.FrmEchoAck}, wordOf(impl.FrmData)), busyEnd(), "", impl.AscNone},
	} {
		got := checkEndHear(t, x.e, 1, slowFrame(x.frame), 5, 31, 310)
		if !sameValue(got.end, x.want) || spelt(t, got.sends) != x.sends || got.code != x.code || len(got.units) > 0 {
			t.Errorf("%s: %v, %s, want %v, %s", x.name, got, spelt(t, got.sends), x.want, x.sends)
		}
	}
	if fresh := slowFresh(taken); fresh.In.Cum != 4294967295 || fresh.Out.Next != 300 || fresh.Beat != 4 || fresh.Left != 0 {
		t.Errorf("%v", fresh)
	}
}

// Four frames, each by the way by which its question came.
func TestTrunkHearAnswersByTheSameWay(t *testing.T) {
	a, b := impl.TrunkEndOpen(1, 3, 7, 3), impl.TrunkEndOpen(3, 1, 8, 2)
	w := checkEndStart(t, a, 10, 4294967295)
	a = w.end
	for i, want := range []string{"1/10 J", "0/20 E", "1/10 F", ""} {
		way := 1 - i%2
		if i%2 == 0 {
			w = checkEndHear(t, b, way, w.sends[0].Bytes, 5, 20, 4294967294)
			b = w.end
		} else {
			w = checkEndHear(t, a, way, w.sends[0].Bytes, 5, 30, 300)
			a = w.end
		}
		if spelt(t, w.sends) != want || (w.code == impl.AscRose) != (i >= 2) {
			t.Fatalf("frame %d: %s, %d", i, spelt(t, w.sends), w.code)
		}
	}
	if a.Out.Next != 4294967295 || b.In.Cum != 4294967294 || b.Out.Next != 4294967294 || a.In.Cum != 4294967293 || a.Out.Streams != 2 || b.In.Streams != 2 || a.Beat != 4 || b.Beat != 4 {
		t.Errorf("%v and %v", a, b)
	}
}

// What a unit is said in: TrunkBundle pieces and one more, by the way to be taken, timed by its Rto, and not anew if something is under way.
func TestTrunkPushSaysPieces(t *testing.T) {
	slower := func(e *impl.TrunkEnd) { e.Ways[0].Rto, e.Ways[1].Rto = 5, 9 }
	for _, x := range []struct {
		name  string
		e     impl.TrunkEnd
		size  int
		sends string
		left  int
		waits int
	}{
		{"one byte", upEnd(), 1, "0/20 D100", 3, 0},
		{"one piece", upEnd(), 16, "0/20 D100", 3, 0},
		{"two pieces", upEnd(), 17, "0/20 D100+D101", 3, 0},
		{"three pieces", upEnd(slower), 48, "0/20 D100+D101+D102", 5, 0},
		{"behind others", upEnd(slower, flies(7, 2, 1)), 48, "0/20 D7+D8+D9", 1, 0},
		{"with others that waited", upEnd(slower, waiting(1, 33)), 16, "0/20 D100+D101+D102, 0/20 D103+D104", 5, 0},
		{"all that there is room for", upEnd(waiting(48, 33)), 32, "0/20 D100+D101+D102, 0/20 D103+D104+D105, 0/20 D106+D107", 3, 0},
		{"more than there is room for", upEnd(waiting(48, 33)), 33, "0/20 D100+D101+D102, 0/20 D103+D104+D105", 3, 1},
		{"no room at all", upEnd(flies(7, 8, 16)), 1, "", 16, 1},
		{"nothing behind one that does not fit", upEnd(flies(7, 6, 2), waiting(48)), 1, "", 2, 2},
		{"numbers that wrap", upEnd(flies(4294967295, 1, 2)), 48, "0/20 D4294967295+D0+D1", 2, 0},
		{"the first way not on", upEnd(slower, errs(3, 2)), 17, "1/20 D100+D101", 9, 0},
		{"the second way not on", upEnd(slower, errs(2, 3)), 17, "0/20 D100+D101", 5, 0},
		{"no way on", upEnd(slower, errs(3, 3)), 17, "0/20 D100+D101", 5, 0},
	} {
		got := checkEndPush(t, x.e, unitOf(9, 3, x.size, false))
		if got.code != 0 || spelt(t, got.sends) != x.sends || got.end.Left != x.left || len(got.end.Out.Queue) != x.waits {
			t.Errorf("%s: %s, left %d, %d wait", x.name, spelt(t, got.sends), got.end.Left, len(got.end.Out.Queue))
		}
	}
}

func TestTrunkPushSaysFlags(t *testing.T) {
	e := upEnd(waiting(33))
	got := checkEndPush(t, e, unitOf(9, 3, 5, true))
	p, _, _ := impl.FrmRead(got.sends[0].Bytes)
	last, _, _ := impl.FrmRead(got.sends[1].Bytes)
	var flags []int
	for _, c := range append(p.Chunks, last.Chunks...) {
		flags = append(flags, c.Flags)
	}
	if !slices.Equal(flags, []int{impl.FrmFirst, 0, impl.FrmLast, impl.FrmFirst + impl.FrmLast + impl.FrmLoose}) || p.From != 1 || p.To != 3 || last.Chunks[0].Stream != 3 {
		t.Errorf("%v, %v", p, last)
	}
}

func TestTrunkPushRefuses(t *testing.T) {
	full := upEnd(flies(3, 8, 7), waiting(1, 2, 3, 4, 5, 6, 7, 8, 9, 10, 11))
	if got := checkEndPush(t, full, unitOf(1, 0, 1, false)); got.code != 0 || len(got.end.Out.Queue) != 12 {
		t.Errorf("there is room for one more: %v", got)
	}
	waiting(12)(&full)
	bad := []impl.DatUnit{
		{}, unitOf(-1, 0, 1, false), unitOf(1000001, 0, 1, false), unitOf(1, -1, 1, false), unitOf(1, 8, 1, false), unitOf(1, 0, 0, false), unitOf(1, 0, 49, true),
		unitOf(1, 4, 1, false), unitOf(1, 7, 1, true), {Mark: math.MinInt, Stream: math.MaxInt, Body: []byte{1}},
	}
	for _, u := range bad {
		for _, e := range []impl.TrunkEnd{upEnd(), full, upEnd(flies(5, 1, 2))} {
			if got := checkEndPush(t, e, u); !sameWires(got, wire{end: e, code: 2}) {
				t.Errorf("%v to %v: %v", u, e, got)
			}
		}
	}
	if got := checkEndPush(t, full, unitOf(1, 3, 48, true)); !sameWires(got, wire{end: full, code: 5}) {
		t.Errorf("one more than there is room for: %v", got)
	}
	for name, e := range goodTrunks() {
		if e.Line.State != impl.AscUp {
			for _, u := range append(bad, unitOf(1, 0, 1, false)) {
				if got := checkEndPush(t, e, u); !sameWires(got, wire{end: e, code: 3}) {
					t.Errorf("%s: %v", name, got)
				}
			}
		}
	}
	for _, mark := range []int{0, 1000000} {
		if got := checkEndPush(t, upEnd(), unitOf(mark, 3, 48, false)); got.code != 0 {
			t.Errorf("mark %d: %v", mark, got)
		}
	}
}

// sack is an answer up to a number.
func sack(tsn int, gaps ...impl.FrmGap) impl.FrmChunk {
	return impl.FrmChunk{Kind: impl.FrmSack, Tsn: tsn, Gaps: gaps}
}

// Pieces are answered once, behind all chunks, by the way by which they came, whatever they tell; what waits is said behind that.
func TestTrunkHearOfPieces(t *testing.T) {
	piece := func(tsn int, stream int, ssn int, flags int) impl.FrmChunk {
		return impl.FrmChunk{Kind: impl.FrmData, Flags: flags, Tsn: tsn, Stream: stream, Ssn: ssn, Body: []byte{byte(tsn), byte(stream)}}
	}
	for _, x := range []struct {
		name   string
		e      impl.TrunkEnd
		chunks []impl.FrmChunk
		units  int
		sends  string
	}{
		{"one", upEnd(), []impl.FrmChunk{piece(200, 0, 0, 3)}, 1, "1/20 S200"},
		{"three of one", upEnd(), []impl.FrmChunk{piece(200, 0, 0, 2), piece(201, 0, 0, 0), piece(202, 0, 0, 1)}, 1, "1/20 S202"},
		{"turned around", upEnd(), []impl.FrmChunk{piece(202, 0, 0, 1), piece(200, 0, 0, 2), piece(201, 0, 0, 0)}, 1, "1/20 S202"},
		{"a hole", upEnd(), []impl.FrmChunk{piece(201, 0, 0, 3), piece(202, 1, 0, 3), piece(205, 2, 7, 3)}, 2, "1/20 S199(2-3)(6-6)"},
		{"loose behind a hole", upEnd(), []impl.FrmChunk{piece(205, 0, 0, 7)}, 1, "1/20 S199(6-6)"},
		{"loose, and with an Ssn", upEnd(), []impl.FrmChunk{piece(200, 0, 1, 7)}, 0, "1/20 S199"},
		{"loose of two", upEnd(), []impl.FrmChunk{piece(200, 0, 0, 6), piece(201, 0, 0, 5)}, 1, "1/20 S201"},
		{"not its turn", upEnd(), []impl.FrmChunk{piece(200, 0, 1, 3)}, 0, "1/20 S200"},
		{"one twice", upEnd(), []impl.FrmChunk{piece(200, 0, 0, 3), piece(200, 0, 0, 3)}, 1, "1/20 S200"},
		{"one that came before", upEnd(), []impl.FrmChunk{piece(199, 0, 0, 3)}, 0, "1/20 S199"},
		{"too far ahead", upEnd(), []impl.FrmChunk{piece(216, 0, 0, 3)}, 0, "1/20 S199"},
		{"just not too far", upEnd(), []impl.FrmChunk{piece(215, 0, 0, 3)}, 1, "1/20 S199(16-16)"},
		{"of no stream", upEnd(), []impl.FrmChunk{piece(200, 4, 0, 3)}, 0, "1/20 S199"},
		{"numbers that wrap", upEnd(func(e *impl.TrunkEnd) { e.In.Cum = 4294967294 }), []impl.FrmChunk{piece(4294967295, 0, 0, 3), piece(1, 1, 0, 3)}, 2, "1/20 S4294967295(2-2)"},
		{"something waits", upEnd(waiting(17)), []impl.FrmChunk{piece(200, 0, 0, 3)}, 1, "1/20 S200, 0/20 D100+D101"},
		{"something waits, and the second way alone is on", upEnd(waiting(17), errs(3, 0)), []impl.FrmChunk{piece(200, 0, 0, 3)}, 1, "1/20 S200, 1/20 D100+D101"},
		{"a beat between", upEnd(), []impl.FrmChunk{piece(200, 0, 0, 3), {Kind: impl.FrmBeat, Body: []byte{7}}, piece(201, 0, 1, 3)}, 2, "1/20 C7, 1/20 S201"},
		{"others between", upEnd(), []impl.FrmChunk{piece(200, 0, 0, 3), {Kind: impl.FrmShut}, {Kind: impl.FrmAbort}, {Kind: impl.FrmError}, {Kind: impl.FrmEchoAck}, wordOf(impl.FrmEcho), {Kind: impl.FrmShutAck}, piece(201, 0, 1, 3)}, 2, "1/20 S201"},
		{"a beat alone", upEnd(waiting(1)), []impl.FrmChunk{{Kind: impl.FrmBeat, Body: counted(3)}}, 0, "1/20 C" + strconv.Itoa(small(counted(3))) + ", 0/20 D100"},
	} {
		got := checkEndHear(t, x.e, 1, framed(x.e, x.chunks...), 5, 0, 0)
		if got.code != impl.AscHeard || len(got.units) != x.units || spelt(t, got.sends) != x.sends {
			t.Errorf("%s: %v, %s, %d", x.name, got.units, spelt(t, got.sends), got.code)
		}
		// The answer is as the document has it, the window included.
		for _, s := range got.sends {
			if p, _, _ := impl.FrmRead(s.Bytes); p.Chunks[0].Kind == impl.FrmSack && (p.Chunks[0].Window != 4096 || len(p.Chunks[0].Doubles) > 0) {
				t.Errorf("%s: %v", x.name, p)
			}
		}
	}
	got := checkEndHear(t, upEnd(), 0, framed(upEnd(), piece(200, 2, 0, 6), piece(201, 2, 0, 5)), 5, 0, 0)
	if !sameValue(got.units, []impl.DatUnit{{Stream: 2, Loose: true, Body: []byte{200, 2, 201, 2}}}) {
		t.Errorf("%v", got.units)
	}
}

// What is under way is timed anew just if less of it is than ahead of the answer; then the way by which that came was heard.
func TestTrunkHearOfAnswers(t *testing.T) {
	paced := func(e *impl.TrunkEnd) {
		e.Ways[0] = impl.PthWay{Addr: 6, On: true, Errors: 2, Srtt: 16, Var: 8, Rto: 12}
		e.Ways[1] = impl.PthWay{Addr: 7, On: true, Errors: 1, Srtt: 33, Var: 4, Rto: 14}
	}
	// Of the first way an eighth of Srtt and six, of the second one four and three.
	heard := []impl.PthWay{{Addr: 6, On: true, Srtt: 16, Var: 6, Rto: 8}, {Addr: 7, On: true, Srtt: 33, Var: 3, Rto: 7}}
	for _, x := range []struct {
		name  string
		e     impl.TrunkEnd
		way   int
		c     impl.FrmChunk
		flies int
		left  int
		heard bool
		sends string
	}{
		{"all", upEnd(paced, flies(8, 3, 2)), 0, sack(7), 0, 0, true, ""},
		{"all, by the second way", upEnd(paced, flies(8, 3, 2)), 1, sack(7), 0, 0, true, ""},
		{"some", upEnd(paced, flies(8, 3, 2)), 0, sack(5), 2, 8, true, ""},
		{"some, by the second way", upEnd(paced, flies(8, 3, 2)), 1, sack(5), 2, 12, true, ""},
		{"nothing new", upEnd(paced, flies(8, 3, 2)), 0, sack(4), 3, 2, false, ""},
		{"some behind a hole", upEnd(paced, flies(8, 3, 1)), 0, sack(4, impl.FrmGap{From: 2, To: 3}), 3, 1, false, ""},
		{"some ahead of a hole", upEnd(paced, flies(8, 3, 1)), 0, sack(5, impl.FrmGap{From: 2, To: 2}), 2, 8, true, ""},
		{"less than ahead of it", upEnd(paced, flies(8, 3, 16)), 0, sack(3), 3, 16, false, ""},
		{"more than is under way", upEnd(paced, flies(8, 3, 16)), 0, sack(8), 3, 16, false, ""},
		{"a gap beyond it", upEnd(paced, flies(8, 3, 16)), 0, sack(5, impl.FrmGap{From: 2, To: 3}), 3, 16, false, ""},
		{"nothing under way", upEnd(paced), 0, sack(99), 0, 0, false, ""},
		{"nothing under way, and too much", upEnd(paced), 0, sack(100), 0, 0, false, ""},
		{"numbers that wrap", upEnd(paced, flies(2, 8, 1)), 0, sack(4294967295), 2, 8, true, ""},
		{"room for what waits", upEnd(paced, flies(8, 8, 2), waiting(33)), 0, sack(2), 8, 8, true, "0/20 D8+D9+D10"},
		{"all, and what waits is timed", upEnd(paced, flies(8, 8, 2), waiting(33)), 1, sack(7), 3, 12, true, "0/20 D8+D9+D10"},
		{"not enough room for what waits", upEnd(paced, flies(8, 8, 2), waiting(33)), 0, sack(1), 6, 8, true, ""},
		{"a code, and there is room for what waits", upEnd(paced, flies(8, 3, 2), waiting(33)), 0, sack(9), 6, 2, false, "0/20 D8+D9+D10"},
		{"a way that was off is on again", upEnd(paced, errs(3, 1), flies(8, 3, 2), waiting(1)), 0, sack(5), 3, 8, true, "0/20 D8"},
	} {
		got := checkEndHear(t, x.e, x.way, framed(x.e, x.c), 5, 0, 0)
		ways := slices.Clone(x.e.Ways)
		if x.heard {
			ways[x.way] = heard[x.way]
		}
		if got.code != impl.AscHeard || len(got.end.Out.Flight) != x.flies || got.end.Left != x.left || !sameValue(got.end.Ways, ways) || spelt(t, got.sends) != x.sends {
			t.Errorf("%s: %d under way, left %d, %v, %s", x.name, len(got.end.Out.Flight), got.end.Left, got.end.Ways, spelt(t, got.sends))
		}
	}
	// Two answers in one frame: each by itself.
	e := upEnd(paced, flies(8, 3, 2))
	if got := checkEndHear(t, e, 0, framed(e, sack(4), sack(5), sack(4), sack(6)), 5, 0, 0); len(got.end.Out.Flight) != 1 || got.end.Left != 7 || got.end.Ways[0].Var != 5 {
		t.Errorf("%v", got.end)
	}
}

// An answer by a way of which nothing is known is as if it took no time.
func TestTrunkHearOfAFirstAnswer(t *testing.T) {
	e := upEnd(flies(8, 3, 2))
	got := checkEndHear(t, e, 0, framed(e, sack(6)), 5, 0, 0)
	if got.end.Ways[0] != (impl.PthWay{Addr: 6, On: true, Rto: 2}) || got.end.Left != 2 || got.end.Ways[1] != e.Ways[1] {
		t.Errorf("%v", got.end)
	}
}

func TestTrunkHearOfBeatsThatComeBack(t *testing.T) {
	back := func(tick int, more ...byte) impl.FrmChunk {
		return impl.FrmChunk{Kind: impl.FrmBeatAck, Body: append(bigFirst(tick, 4), more...)}
	}
	open := []impl.PthWay{{Addr: 6, On: true, Rto: 3}, {Addr: 7, On: true, Rto: 3}}
	at := func(way int, w impl.PthWay) []impl.PthWay {
		ways := slices.Clone(open)
		w.Addr, w.On = 6+way, true
		ways[way] = w
		return ways
	}
	for _, x := range []struct {
		name   string
		e      impl.TrunkEnd
		way    int
		now    int
		chunks []impl.FrmChunk
		ways   []impl.PthWay
		beaten []bool
	}{
		{"at once", upEnd(beaten(true, true)), 0, 7, []impl.FrmChunk{back(7)}, at(0, impl.PthWay{Rto: 2}), []bool{false, true}},
		{"behind two ticks", upEnd(beaten(true, true)), 0, 7, []impl.FrmChunk{back(5)}, at(0, impl.PthWay{Srtt: 16, Var: 4, Rto: 6}), []bool{false, true}},
		{"by the second way", upEnd(beaten(true, true)), 1, 7, []impl.FrmChunk{back(5)}, at(1, impl.PthWay{Srtt: 16, Var: 4, Rto: 6}), []bool{true, false}},
		{"with more bytes", upEnd(beaten(true, true)), 1, 7, []impl.FrmChunk{back(5, counted(12)...)}, at(1, impl.PthWay{Srtt: 16, Var: 4, Rto: 6}), []bool{true, false}},
		{"by another way", upEnd(beaten(true, false)), 1, 7, []impl.FrmChunk{back(5)}, open, []bool{true, false}},
		{"none was sent", upEnd(beaten(false, true)), 0, 7, []impl.FrmChunk{back(5)}, open, []bool{false, true}},
		{"twice", upEnd(beaten(true, true)), 0, 7, []impl.FrmChunk{back(5), back(0)}, at(0, impl.PthWay{Srtt: 16, Var: 4, Rto: 6}), []bool{false, true}},
		{"above now", upEnd(beaten(true, true)), 0, 7, []impl.FrmChunk{back(8)}, open, []bool{true, true}},
		{"above now, and then not", upEnd(beaten(true, true)), 0, 7, []impl.FrmChunk{back(4294967295), back(5)}, at(0, impl.PthWay{Srtt: 16, Var: 4, Rto: 6}), []bool{false, true}},
		{"no bytes", upEnd(beaten(true, true)), 0, 7, []impl.FrmChunk{{Kind: impl.FrmBeatAck}}, open, []bool{true, true}},
		{"three bytes", upEnd(beaten(true, true)), 0, 7, []impl.FrmChunk{{Kind: impl.FrmBeatAck, Body: []byte{0, 0, 0}}}, open, []bool{true, true}},
		{"at the first tick", upEnd(beaten(true, true)), 0, 0, []impl.FrmChunk{back(0)}, at(0, impl.PthWay{Rto: 2}), []bool{false, true}},
		{"at the last tick", upEnd(beaten(true, true)), 0, 1000000, []impl.FrmChunk{back(1000000)}, at(0, impl.PthWay{Rto: 2}), []bool{false, true}},
		{"behind all ticks", upEnd(beaten(true, true)), 0, 1000000, []impl.FrmChunk{back(0)}, at(0, impl.PthWay{Srtt: 128, Var: 32, Rto: 16}), []bool{false, true}},
		{"by a way that was off", upEnd(errs(3, 0), beaten(true, true)), 0, 7, []impl.FrmChunk{back(5)}, at(0, impl.PthWay{Srtt: 16, Var: 4, Rto: 6}), []bool{false, true}},
		{"a beat is none that came back", upEnd(beaten(true, true)), 0, 7, []impl.FrmChunk{{Kind: impl.FrmBeat, Body: bigFirst(5, 4)}}, open, []bool{true, true}},
	} {
		got := checkEndHear(t, x.e, x.way, framed(x.e, x.chunks...), x.now, 0, 0)
		if got.code != impl.AscHeard || !sameValue(got.end.Ways, x.ways) || !slices.Equal(got.end.Beaten, x.beaten) {
			t.Errorf("%s: %v, %v", x.name, got.end.Ways, got.end.Beaten)
		}
	}
}

// A way that comes back by a beat is taken again in the same frame.
func TestTrunkHearTakesAWayAgain(t *testing.T) {
	e := upEnd(errs(3, 0), beaten(true, true), waiting(16))
	got := checkEndHear(t, e, 0, framed(e, impl.FrmChunk{Kind: impl.FrmBeatAck, Body: bigFirst(3, 4)}), 7, 0, 0)
	// Four ticks, and twice four for how much that varies.
	if spelt(t, got.sends) != "0/20 D100" || got.end.Left != 12 {
		t.Errorf("%s, left %d", spelt(t, got.sends), got.end.Left)
	}
}

// What is under way is said again when it was timed long enough: TrunkBundle + 1 pieces, by the other way, timed by the way to be taken.
func TestTrunkTickSaysAgain(t *testing.T) {
	paced := func(e *impl.TrunkEnd) { e.Ways[0].Rto, e.Ways[1].Rto = 5, 9 }
	gone := func(e *impl.TrunkEnd) { e.Out.Flight[1].Acked, e.Out.Flight[3].Acked = true, true }
	for _, x := range []struct {
		name   string
		e      impl.TrunkEnd
		sends  string
		left   int
		errors [2]int
		rtos   [2]int
	}{
		{"nothing under way", upEnd(paced), "", 0, [2]int{0, 0}, [2]int{5, 9}},
		{"not yet", upEnd(paced, flies(8, 8, 2)), "", 1, [2]int{0, 0}, [2]int{5, 9}},
		{"long not", upEnd(paced, flies(8, 8, 16)), "", 15, [2]int{0, 0}, [2]int{5, 9}},
		{"one", upEnd(paced, flies(8, 1, 1)), "1/20 D7", 10, [2]int{1, 0}, [2]int{10, 9}},
		{"three", upEnd(paced, flies(8, 3, 1)), "1/20 D5+D6+D7", 10, [2]int{1, 0}, [2]int{10, 9}},
		{"four", upEnd(paced, flies(8, 4, 1)), "1/20 D4+D5+D6, 1/20 D7", 10, [2]int{1, 0}, [2]int{10, 9}},
		{"eight", upEnd(paced, flies(8, 8, 1)), "1/20 D0+D1+D2, 1/20 D3", 10, [2]int{1, 0}, [2]int{10, 9}},
		{"some answered", upEnd(paced, flies(8, 8, 1), gone), "1/20 D0+D2+D4, 1/20 D5", 10, [2]int{1, 0}, [2]int{10, 9}},
		{"numbers that wrap", upEnd(paced, flies(1, 3, 1)), "1/20 D4294967294+D4294967295+D0", 10, [2]int{1, 0}, [2]int{10, 9}},
		{"the last time on", upEnd(paced, flies(8, 1, 1), errs(1, 0)), "1/20 D7", 10, [2]int{2, 0}, [2]int{10, 9}},
		{"the way goes off", upEnd(paced, flies(8, 1, 1), errs(2, 0)), "1/20 D7", 9, [2]int{3, 0}, [2]int{10, 9}},
		{"the other one is not on", upEnd(paced, flies(8, 1, 1), errs(0, 3)), "0/20 D7", 10, [2]int{1, 3}, [2]int{10, 9}},
		{"the second one alone is on", upEnd(paced, flies(8, 1, 1), errs(3, 0)), "1/20 D7", 16, [2]int{3, 1}, [2]int{5, 16}},
		{"with what waits, which is not said", upEnd(paced, flies(8, 1, 1), waiting(1)), "1/20 D7", 10, [2]int{1, 0}, [2]int{10, 9}},
	} {
		got := checkEndTick(t, x.e, 5)
		errors, rtos := [2]int{got.end.Ways[0].Errors, got.end.Ways[1].Errors}, [2]int{got.end.Ways[0].Rto, got.end.Ways[1].Rto}
		if got.code != impl.AscNone || spelt(t, got.sends) != x.sends || got.end.Left != x.left || errors != x.errors || rtos != x.rtos || got.end.Beat != 3 {
			t.Errorf("%s: %s, left %d, %v", x.name, spelt(t, got.sends), got.end.Left, got.end.Ways)
		}
		if len(got.end.Out.Queue) != len(x.e.Out.Queue) || len(got.end.Out.Flight) != len(x.e.Out.Flight) {
			t.Errorf("%s: %v", x.name, got.end.Out)
		}
	}
}

func TestTrunkTickBeats(t *testing.T) {
	for _, x := range []struct {
		name   string
		e      impl.TrunkEnd
		now    int
		sends  string
		errors [2]int
		code   int
	}{
		{"not yet", upEnd(), 5, "", [2]int{0, 0}, impl.AscNone},
		{"the first ones", upEnd(beatIn(1)), 5, "0/20 B5, 1/20 B5", [2]int{0, 0}, impl.AscNone},
		{"at the first tick", upEnd(beatIn(1)), 0, "0/20 B0, 1/20 B0", [2]int{0, 0}, impl.AscNone},
		{"at the last tick", upEnd(beatIn(1)), 1000000, "0/20 B1000000, 1/20 B1000000", [2]int{0, 0}, impl.AscNone},
		{"one did not come back", upEnd(beatIn(1), beaten(false, true)), 5, "0/20 B5, 1/20 B5", [2]int{0, 1}, impl.AscNone},
		{"both did not", upEnd(beatIn(1), beaten(true, true)), 5, "0/20 B5, 1/20 B5", [2]int{1, 1}, impl.AscNone},
		{"a way goes off", upEnd(beatIn(1), beaten(true, true), errs(2, 1)), 5, "0/20 B5, 1/20 B5", [2]int{3, 2}, impl.AscNone},
		{"by a way that is off", upEnd(beatIn(1), beaten(true, true), errs(3, 1)), 5, "0/20 B5, 1/20 B5", [2]int{3, 2}, impl.AscNone},
		{"said again ahead of it", upEnd(beatIn(1), flies(8, 1, 1)), 5, "1/20 D7, 0/20 B5, 1/20 B5", [2]int{1, 0}, impl.AscNone},
		{"said again, and lost twice", upEnd(beatIn(1), flies(8, 1, 1), beaten(true, false)), 5, "1/20 D7, 0/20 B5, 1/20 B5", [2]int{2, 0}, impl.AscNone},
	} {
		got := checkEndTick(t, x.e, x.now)
		errors := [2]int{got.end.Ways[0].Errors, got.end.Ways[1].Errors}
		beat, sent := 3, []bool{false, false}
		if x.e.Beat == 1 {
			beat, sent = 4, []bool{true, true}
		}
		if spelt(t, got.sends) != x.sends || errors != x.errors || got.code != x.code || got.end.Beat != beat || !slices.Equal(got.end.Beaten, sent) {
			t.Errorf("%s: %s, %v", x.name, spelt(t, got.sends), got.end)
		}
	}
}

// If no way is on the line is closed, by the first one, behind all else that goes out.
func TestTrunkTickWithNoWayOn(t *testing.T) {
	left := slowBare(bareOf(endIn(impl.AscUp)))
	for _, x := range []struct {
		name  string
		e     impl.TrunkEnd
		sends string
	}{
		{"none was", upEnd(errs(3, 3)), "0/20 X"},
		{"the last one goes off by a beat", upEnd(errs(3, 2), beatIn(1), beaten(false, true)), "0/20 B5, 1/20 B5, 0/20 X"},
		{"both do", upEnd(errs(2, 2), beatIn(1), beaten(true, true)), "0/20 B5, 1/20 B5, 0/20 X"},
		{"the last one goes off by what is under way", upEnd(errs(3, 2), flies(8, 2, 1), waiting(48, 48, 48)), "0/20 D6+D7, 0/20 X"},
		{"the first one does", upEnd(errs(2, 3), flies(8, 2, 1)), "0/20 D6+D7, 0/20 X"},
		{"by both", upEnd(errs(1, 3), flies(8, 2, 1), beatIn(1), beaten(true, true)), "0/20 D6+D7, 0/20 B5, 1/20 B5, 0/20 X"},
	} {
		got := checkEndTick(t, x.e, 5)
		if spelt(t, got.sends) != x.sends || got.code != impl.AscLost || !sameValue(got.end, left) {
			t.Errorf("%s: %s, %v", x.name, spelt(t, got.sends), got)
		}
	}
}

func TestTrunkTickOfALineThatIsNotUp(t *testing.T) {
	for _, state := range []int{0, 1, 2, 4, 5} {
		for tries := range 5 {
			for left := 1; left <= 3; left++ {
				e := slowBare(endIn(state))
				errs(3, 1)(&e)
				beaten(true, false)(&e)
				want := ""
				if state > 0 {
					e.Line.Tries, e.Line.Left = tries, left
					if left == 1 && tries < 4 {
						word := map[int]string{1: "/0 I", 2: "/20 E", 4: "/20 H200", 5: "/20 K"}[state]
						want = []string{"1", "0", "1", "0"}[tries] + word
					}
				}
				got := checkEndTick(t, e, 5)
				closes := state == 0 || left == 1 && tries == 4
				lost := closes && (state == 1 || state == 2)
				if spelt(t, got.sends) != want || (got.end.Line.State == 0) != closes || (got.code == impl.AscLost) != lost {
					t.Errorf("state %d, %d tries, left %d: %s, %v", state, tries, left, spelt(t, got.sends), got)
				}
				if !sameValue(got.end.Ways, e.Ways) || !slices.Equal(got.end.Beaten, e.Beaten) {
					t.Errorf("state %d, %d tries, left %d: %v", state, tries, left, got.end)
				}
			}
		}
	}
}

func TestTrunkTickAtNoTick(t *testing.T) {
	for name, e := range goodTrunks() {
		for _, now := range []int{-1, 1000001, math.MinInt, math.MaxInt} {
			if got := checkEndTick(t, e, now); !sameWires(got, wire{end: e}) {
				t.Errorf("%s at %d: %v", name, now, got)
			}
		}
		checkEndTick(t, e, 0)
		checkEndTick(t, e, 1000000)
	}
}

// P63: what is left is bare; what it was tells all that waits and that is under way.
func TestTrunkCloseLeavesABareEnd(t *testing.T) {
	shuts := endIn(impl.AscUp)
	shuts.State, shuts.Left = impl.AscShuts, 3
	for _, x := range []struct {
		name string
		e    impl.TrunkEnd
		hard bool
		way  int
		at   int
	}{
		{"in good order", upEnd(), false, 0, 199},
		{"hard", upEnd(), true, 0, 0},
		{"with much", upEnd(flies(8, 8, 1), waiting(1, 2, 48)), false, 0, 199},
		{"with much, hard", upEnd(flies(8, 8, 1), waiting(1, 2, 48), beaten(true, true)), true, 0, 0},
		{"by the second way", upEnd(errs(3, 2)), false, 1, 199},
		{"by the second way, hard", upEnd(errs(3, 2)), true, 1, 0},
		{"no way on", upEnd(errs(3, 3)), false, 0, 199},
		{"behind what has come", upEnd(func(e *impl.TrunkEnd) { e.In.Cum, e.In.Seen = 4294967295, []int{1} }), false, 0, 4294967295},
	} {
		got := checkEndClose(t, x.e, x.hard)
		line, sends := shuts, fmt.Sprintf("%d/20 H%d", x.way, x.at)
		line.PeerTsn = x.at
		if x.hard {
			line, sends = bareOf(shuts), fmt.Sprintf("%d/20 X", x.way)
		}
		if got.code != 0 || spelt(t, got.sends) != sends || !sameValue(got.end, slowBare(line)) {
			t.Errorf("%s: %s, %v", x.name, spelt(t, got.sends), got)
		}
		units, marks := impl.DatEnd(x.e.Out)
		if !sameValue(units, x.e.Out.Queue) || len(marks) != (len(x.e.Out.Flight)+1)/2 {
			t.Errorf("%s: %v, %v", x.name, units, marks)
		}
	}
}

func TestTrunkCloseRefuses(t *testing.T) {
	for name, e := range goodTrunks() {
		if e.Line.State != impl.AscUp {
			for _, hard := range []bool{false, true} {
				if got := checkEndClose(t, e, hard); !sameWires(got, wire{end: e, code: 3}) {
					t.Errorf("%s: %v", name, got)
				}
			}
		}
	}
}

// All functions of many ends, by chance, are as the slow reading has them.
func TestTrunkOfManyEnds(t *testing.T) {
	chance := rand.New(rand.NewSource(15))
	happened, codes, ticked := map[int]int{}, map[int]int{}, map[int]int{}
	for range 6000 {
		e := someEnd(chance)
		if !slowTrunkOk(e) {
			t.Fatalf("%v is not ok", e)
		}
		now := []int{0, 1, 9, 500, 999999, 1000000}[chance.Intn(6)]
		for range 4 {
			got := checkEndHear(t, e, chance.Intn(2), bytesFor(chance, e, now), now, 4294967295-chance.Intn(3), nexts[chance.Intn(len(nexts))])
			happened[got.code]++
			if chance.Intn(3) == 0 {
				e = got.end
			}
		}
		codes[checkEndPush(t, e, unitOf(chance.Intn(9), chance.Intn(max(e.Out.Streams, 1)+1), chance.Intn(50), chance.Intn(3) == 0)).code]++
		ticked[checkEndTick(t, e, now).code]++
		checkEndClose(t, e, chance.Intn(2) == 0)
		checkEndStart(t, e, e.Line.Last+chance.Intn(3), nexts[chance.Intn(len(nexts))])
	}
	for what, want := range map[string]int{"rose": happened[impl.AscRose], "anew": happened[impl.AscAnew], "lost": happened[impl.AscLost], "gone": happened[impl.AscGone], "none": happened[impl.AscNone], "heard": happened[impl.AscHeard] / 20,
		"pushed": codes[0], "bad": codes[2], "not up": codes[3], "full": codes[5], "ticked": ticked[impl.AscNone], "lost by a tick": ticked[impl.AscLost]} {
		if want < 30 {
			t.Errorf("%s: %d times", what, want)
		}
	}
}

// P30: whatever bytes come.
func TestTrunkHearOfWhateverComes(t *testing.T) {
	chance := rand.New(rand.NewSource(30))
	read := 0
	for n, b := range oddBytes() {
		if n%4 > 0 {
			continue
		}
		e := someEnd(chance)
		// Often from the right node, under the right tag, so that it is no matter of the head.
		if len(b) >= 12 && chance.Intn(8) > 0 {
			copy(b, slices.Concat(bigFirst(e.Line.Peer, 2), bigFirst(e.Line.Me, 2)))
			if small(b[4:8]) > 0 && e.Line.Tag > 0 {
				copy(b[4:8], bigFirst(e.Line.Tag, 4))
			}
			if chance.Intn(8) > 0 {
				b = summed(b)
			}
		}
		if got := checkEndHear(t, e, chance.Intn(2), b, chance.Intn(1000001), chance.Intn(4294967296), chance.Intn(4294967296)); got.code == impl.AscHeard {
			read++
		}
	}
	if read < 300 {
		t.Errorf("%d were heard", read)
	}
}

// P31: who hears nothing gives up in time, whatever it was.
func TestTrunkGivesUp(t *testing.T) {
	chance := rand.New(rand.NewSource(31))
	for range 3000 {
		e := someEnd(chance)
		if chance.Intn(2) == 0 && e.Line.State == impl.AscUp {
			e.Ways, e.Beaten = upEnd().Ways, upEnd().Beaten
			e.Ways[0].Addr, e.Ways[1].Addr = 2*e.Line.Peer, 2*e.Line.Peer+1
		}
		was := e
		for now := range 40 {
			e = checkEndTick(t, e, now).end
		}
		if e.Line.State != impl.AscClosed {
			t.Fatalf("behind 40 ticks %v is %v", was, e)
		}
	}
}

// P31: what is under way was said again ahead of that, all of it that was not answered as far as TrunkBundle + 1 go.
func TestTrunkSaysAgainAheadOfGivingUp(t *testing.T) {
	for beat := 1; beat <= 4; beat++ {
		for count := 1; count <= 8; count++ {
			for left := 1; left <= 10; left++ {
				e := upEnd(beatIn(beat), flies(5, count, left))
				again := 0
				for now := 0; e.Line.State == impl.AscUp; now++ {
					got := checkEndTick(t, e, now)
					if strings.Contains(spelt(t, got.sends), "D") {
						again++
					}
					e = got.end
				}
				if again == 0 {
					t.Fatalf("%d under way, left %d, with the beat %d: nothing was said again", count, left, beat)
				}
			}
		}
	}
}

func TestTrunkMemory(t *testing.T) {
	chance := rand.New(rand.NewSource(63))
	ends := []impl.TrunkEnd{busyEnd(), upEnd(errs(3, 3), flies(5, 8, 1), waiting(48, 3)), {}}
	for _, e := range goodTrunks() {
		ends = append(ends, e)
	}
	for range 300 {
		ends = append(ends, someEnd(chance))
	}
	for _, plain := range ends {
		e := roomy(plain)
		checkMemory(t, "TrunkEndOk", func() []any {
			impl.TrunkEndOk(e)
			return nil
		}, e)
		for _, tag := range []int{4294967295, 0} {
			checkMemory(t, "TrunkStart", func() []any {
				got, sends, _ := impl.TrunkStart(e, tag, 5)
				return []any{got, sends}
			}, e)
		}
		frames := [][]byte{nil, slowFrame(toEnd(e.Line, 0, wordOf(impl.FrmInit)))}
		for range 6 {
			if slowTrunkOk(e) {
				frames = append(frames, bytesFor(chance, e, 9))
			}
		}
		for _, frame := range frames {
			b := roomy(frame)
			checkMemory(t, "TrunkHear", func() []any {
				got, sends, units, _ := impl.TrunkHear(e, 1, b, 9, 4294967295, 7)
				return []any{got, sends, units}
			}, e, b)
		}
		for _, size := range []int{0, 1, 48} {
			u := roomy(unitOf(5, 0, size, false))
			checkMemory(t, "TrunkPush", func() []any {
				got, sends, _ := impl.TrunkPush(e, u)
				return []any{got, sends}
			}, e, u)
		}
		for _, now := range []int{-1, 9} {
			checkMemory(t, "TrunkTick", func() []any {
				got, sends, _ := impl.TrunkTick(e, now)
				return []any{got, sends}
			}, e)
		}
		for _, hard := range []bool{false, true} {
			checkMemory(t, "TrunkClose", func() []any {
				got, sends, _ := impl.TrunkClose(e, hard)
				return []any{got, sends}
			}, e)
		}
	}
	checkMemory(t, "TrunkEndOpen", func() []any {
		return []any{impl.TrunkEndOpen(1, 3, 7, 2), impl.TrunkEndOpen(1, 3, 7, 2)}
	})
}
