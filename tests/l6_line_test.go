package tests

import (
	"bytes"
	"math"
	"slices"
	"testing"

	"loop.example/trunk/impl"
)

// part is a number of an end.
type part struct {
	name  string
	place func(e *impl.AscEnd) *int
}

var parts = []part{
	{"Me", func(e *impl.AscEnd) *int { return &e.Me }},
	{"Peer", func(e *impl.AscEnd) *int { return &e.Peer }},
	{"Secret", func(e *impl.AscEnd) *int { return &e.Secret }},
	{"Wish", func(e *impl.AscEnd) *int { return &e.Wish }},
	{"Last", func(e *impl.AscEnd) *int { return &e.Last }},
	{"State", func(e *impl.AscEnd) *int { return &e.State }},
	{"Tag", func(e *impl.AscEnd) *int { return &e.Tag }},
	{"PeerTag", func(e *impl.AscEnd) *int { return &e.PeerTag }},
	{"Tsn", func(e *impl.AscEnd) *int { return &e.Tsn }},
	{"PeerTsn", func(e *impl.AscEnd) *int { return &e.PeerTsn }},
	{"Streams", func(e *impl.AscEnd) *int { return &e.Streams }},
	{"Tries", func(e *impl.AscEnd) *int { return &e.Tries }},
	{"Left", func(e *impl.AscEnd) *int { return &e.Left }},
}

// slowParts is what the document's table says of the numbers of an end, the other ones being as they are.
func slowParts(e impl.AscEnd) map[string]reach {
	given := reach{1, 4294967295}
	in := map[string]reach{"Me": short, "Peer": short, "Secret": {1, 2147483646}, "Wish": {1, 8}, "Last": long, "State": {0, 5}}
	if e.State == 1 || e.State == 2 {
		in["Tag"], in["Tsn"] = reach{e.Last + 1, 4294967295}, long
	}
	if e.State >= 3 {
		in["Tag"], in["Tsn"] = given, long
		in["Last"] = reach{e.Tag, e.Tag}
	}
	if e.State >= 2 {
		in["PeerTag"], in["PeerTsn"], in["Streams"] = given, long, reach{1, e.Wish}
	}
	if e.State >= 1 && e.State != 3 {
		in["Tries"], in["Left"] = reach{0, 4}, reach{1, 3}
	}
	return in
}

func slowEndOk(e impl.AscEnd) bool {
	in := slowParts(e)
	for _, p := range parts {
		// What is not named is in the reach from 0 to 0.
		if !in[p.name].has(*p.place(&e)) {
			return false
		}
	}
	if e.State == 2 {
		return e.Me != e.Peer && len(e.Cookie) >= 1 && len(e.Cookie) <= 64
	}
	return e.Me != e.Peer && len(e.Cookie) == 0
}

// endIn is an ordinary end of a state, with another number in each of its fields.
func endIn(state int) impl.AscEnd {
	e := impl.AscEnd{Me: 1, Peer: 3, Secret: 7, Wish: 5, Last: 9, State: state}
	if state != impl.AscClosed {
		e.Tag, e.Tsn = 10, 100
	}
	if state >= impl.AscUp {
		e.Last = 10
	}
	if state >= impl.AscEchoes {
		e.PeerTag, e.PeerTsn, e.Streams = 20, 200, 4
	}
	if state == impl.AscEchoes {
		e.Cookie = counted(44)
	}
	if state != impl.AscClosed && state != impl.AscUp {
		e.Tries, e.Left = 2, 2
	}
	return e
}

// edgeEnds are ok: ordinary ones, and such with all that they have at one of their bounds.
func edgeEnds() []impl.AscEnd {
	var list []impl.AscEnd
	for state := range 6 {
		e := endIn(state)
		least := impl.AscEnd{Me: 0, Peer: 1, Secret: 1, Wish: 1, State: state}
		most := impl.AscEnd{Me: 65535, Peer: 65534, Secret: 2147483646, Wish: 8, Last: 4294967294, State: state}
		if e.Tag > 0 {
			least.Tag, most.Tag, most.Tsn = 1, 4294967295, 4294967295
		} else {
			most.Last = 4294967295
		}
		if state >= 3 {
			least.Last, most.Last = least.Tag, most.Tag
		}
		if e.PeerTag > 0 {
			least.PeerTag, least.Streams = 1, 1
			most.PeerTag, most.PeerTsn, most.Streams = 4294967295, 4294967295, 8
		}
		if len(e.Cookie) > 0 {
			least.Cookie, most.Cookie = []byte{0}, counted(64)
		}
		if e.Left > 0 {
			least.Left, most.Tries, most.Left = 1, 4, 3
		}
		list = append(list, e, least, most)
	}
	return list
}

func sameEnds(a impl.AscEnd, b impl.AscEnd) bool {
	for _, p := range parts {
		if *p.place(&a) != *p.place(&b) {
			return false
		}
	}
	return bytes.Equal(a.Cookie, b.Cookie)
}

func sameSays(a []impl.FrmPacket, b []impl.FrmPacket) bool {
	return slices.EqualFunc(a, b, sameFrames)
}

// bareOf is the end behind its close.
func bareOf(e impl.AscEnd) impl.AscEnd {
	return impl.AscEnd{Me: e.Me, Peer: e.Peer, Secret: e.Secret, Wish: e.Wish, Last: e.Last}
}

// saidBy is one frame of an end.
func saidBy(e impl.AscEnd, tag int, c impl.FrmChunk) []impl.FrmPacket {
	return []impl.FrmPacket{{From: e.Me, To: e.Peer, Tag: tag, Chunks: []impl.FrmChunk{c}}}
}

// toEnd is a frame to an end, from its peer.
func toEnd(e impl.AscEnd, tag int, chunks ...impl.FrmChunk) impl.FrmPacket {
	return impl.FrmPacket{From: e.Peer, To: e.Me, Tag: tag, Chunks: chunks}
}

// wordOf is a chunk of each kind; that of FrmEcho holds no cookie.
func wordOf(kind int) impl.FrmChunk {
	switch kind {
	case impl.FrmData:
		return impl.FrmChunk{Kind: kind, Flags: 3, Tsn: 50, Stream: 1, Ssn: 2, Body: []byte{1}}
	case impl.FrmInit:
		return impl.FrmChunk{Kind: kind, Tag: 40, Window: 9, Stream: 2, Tsn: 400}
	case impl.FrmInitAck:
		return impl.FrmChunk{Kind: kind, Tag: 40, Window: 9, Stream: 2, Tsn: 400, Body: counted(44)}
	case impl.FrmEcho:
		return impl.FrmChunk{Kind: kind, Body: counted(44)}
	case impl.FrmSack, impl.FrmShut:
		return impl.FrmChunk{Kind: kind, Tsn: 60}
	}
	return impl.FrmChunk{Kind: kind}
}

// answer is what AscHear, AscTick, AscStart and AscClose tell.
type answer struct {
	end  impl.AscEnd
	says []impl.FrmPacket
	code int
}

func answerOf(e impl.AscEnd, says []impl.FrmPacket, code int) answer {
	return answer{e, says, code}
}

func sameAnswers(a answer, b answer) bool {
	return sameEnds(a.end, b.end) && sameSays(a.says, b.says) && a.code == b.code
}

// slowHear follows the document's lines, one after the other.
func slowHear(e impl.AscEnd, p impl.FrmPacket, now int, tag int, tsn int) answer {
	if !slowEndOk(e) {
		return answer{}
	}
	stays := answer{end: e}
	if !slowFrameOk(p) || p.From != e.Peer || p.To != e.Me {
		return stays
	}
	c := p.Chunks[0]
	is := func(kinds ...int) bool { return slices.Contains(kinds, c.Kind) }
	in := func(states ...int) bool { return slices.Contains(states, e.State) }
	// 1
	if is(1) {
		return slowHearInit(e, c, now, tag, tsn)
	}
	// 2
	if is(10) {
		return slowHearEcho(e, p, now)
	}
	// 3
	if is(6) && !in(0) && (p.Tag == e.Tag && c.Flags == 0 || p.Tag == e.PeerTag && c.Flags == 1) {
		return answer{bareOf(e), nil, 3}
	}
	// 4
	if in(0) || in(3) && p.Tag != e.Tag {
		if is(0, 3, 4, 7) {
			stays.says = saidBy(e, p.Tag, impl.FrmChunk{Kind: 6, Flags: 1, Cause: 2})
		}
		return stays
	}
	// 5
	if p.Tag != e.Tag {
		return stays
	}
	turned := e
	switch {
	case is(2) && in(1): // 6
		turned.State, turned.PeerTag, turned.PeerTsn, turned.Cookie = 2, c.Tag, c.Tsn, c.Body
		turned.Streams, turned.Tries, turned.Left = min(e.Wish, c.Stream), 0, 3
		return answer{turned, saidBy(e, c.Tag, impl.FrmChunk{Kind: 10, Body: c.Body}), 0}
	case is(11) && in(2): // 7
		turned.State, turned.Last, turned.Cookie, turned.Tries, turned.Left = 3, e.Tag, nil, 0, 0
		return answer{turned, nil, 1}
	case is(7) && in(3, 4, 5): // 8
		happened := 0
		if in(3, 4) {
			turned.State, turned.Tries, turned.Left = 5, 0, 3
		}
		if in(3) {
			happened = 4
		}
		return answer{turned, saidBy(e, e.PeerTag, impl.FrmChunk{Kind: 8}), happened}
	case is(8) && in(4, 5): // 9
		return answer{bareOf(e), saidBy(e, e.PeerTag, impl.FrmChunk{Kind: 14}), 0}
	case is(14) && in(5):
		return answer{bareOf(e), nil, 0}
	case is(0, 3, 4, 5) && in(3): // 10
		stays.code = 5
	}
	return stays
}

func slowHearInit(e impl.AscEnd, c impl.FrmChunk, now int, tag int, tsn int) answer {
	stays := answer{end: e}
	if e.State >= 4 {
		return stays
	}
	k := impl.AscCookie{Me: e.Me, Peer: e.Peer, Tag: tag, Tsn: tsn, PeerTag: c.Tag, PeerTsn: c.Tsn, Streams: min(e.Wish, c.Stream), Made: now}
	if e.State == 1 || e.State == 2 {
		k.Tag, k.Tsn = e.Tag, e.Tsn
	}
	if e.State == 3 {
		k.OldTag, k.OldPeerTag = e.Tag, e.PeerTag
	}
	if slowFits(k) && k.Tag > e.Last {
		body := rawCookie(k, slowMac(e.Secret, k))
		stays.says = saidBy(e, c.Tag, impl.FrmChunk{Kind: 2, Tag: k.Tag, Window: 4096, Stream: e.Wish, Tsn: k.Tsn, Body: body})
	}
	return stays
}

func slowHearEcho(e impl.AscEnd, p impl.FrmPacket, now int) answer {
	stays := answer{end: e}
	k, code := impl.AscTaste(e.Secret, e.Me, e.Peer, now, p.Chunks[0].Body)
	if code != 0 || p.Tag != k.Tag || k.Streams > e.Wish {
		return stays
	}
	ack := saidBy(e, k.PeerTag, impl.FrmChunk{Kind: 11})
	if e.State == 3 && e.Tag == k.Tag && e.PeerTag == k.PeerTag {
		stays.says = ack
		return stays
	}
	if k.Tag <= e.Last {
		return stays
	}
	taken := bareOf(e)
	taken.State, taken.Last = 3, k.Tag
	taken.Tag, taken.PeerTag, taken.Tsn, taken.PeerTsn, taken.Streams = k.Tag, k.PeerTag, k.Tsn, k.PeerTsn, k.Streams
	switch {
	case e.State == 0 || e.State == 1 && e.Tag == k.Tag || e.State == 2 && e.Tag == k.Tag:
		return answer{taken, ack, 1}
	case e.State == 3 && e.Tag == k.OldTag && e.PeerTag == k.OldPeerTag:
		return answer{taken, ack, 2}
	}
	return stays
}

func TestAscEndOkOfEachState(t *testing.T) {
	for _, e := range edgeEnds() {
		if !impl.AscEndOk(e) || !slowEndOk(e) {
			t.Errorf("%v is not ok", e)
		}
	}
}

// Each number of each end is set to numbers in and out of all limits, and to its neighbours.
func TestAscEndOkOfEachNumber(t *testing.T) {
	yes, no := 0, 0
	for _, e := range edgeEnds() {
		for _, p := range parts {
			n := *p.place(&e)
			for _, other := range append([]int{n - 1, n + 1, e.Tag, e.Last, e.Last + 1, e.Wish, e.Wish + 1, e.Me, e.Peer, 3, 4, 5, 6, 256}, wide...) {
				turned := e
				*p.place(&turned) = other
				want := slowEndOk(turned)
				if impl.AscEndOk(turned) != want {
					t.Errorf("%v, its %s being %d: not %v", turned, p.name, other, want)
				}
				if want {
					yes++
				} else {
					no++
				}
			}
		}
	}
	if yes < 500 || no < 500 {
		t.Errorf("%d are ok, %d are not", yes, no)
	}
}

// badEnds are ends of all states with one thing that is not ok.
func badEnds() []impl.AscEnd {
	var list []impl.AscEnd
	turn := func(state int, name string, n int) {
		for _, p := range parts {
			if p.name == name {
				e := endIn(state)
				*p.place(&e) = n
				list = append(list, e)
			}
		}
	}
	for state := range 6 {
		for _, c := range []struct {
			name string
			n    int
		}{
			{"Me", -1}, {"Me", 65536}, {"Me", 3}, {"Peer", -1}, {"Peer", 65536}, {"Peer", 1}, {"Secret", 0}, {"Secret", 2147483647}, {"Secret", -1},
			{"Wish", 0}, {"Wish", 9}, {"Last", -1}, {"Last", 4294967296}, {"State", -1}, {"State", 6}, {"State", math.MinInt}, {"State", math.MaxInt},
			{"Tag", -1}, {"Tag", 4294967296}, {"PeerTag", -1}, {"PeerTag", 4294967296}, {"Tsn", -1}, {"Tsn", 4294967296}, {"PeerTsn", -1},
			{"PeerTsn", 4294967296}, {"Streams", -1}, {"Streams", 6}, {"Tries", -1}, {"Tries", 5}, {"Left", -1}, {"Left", 4},
		} {
			turn(state, c.name, c.n)
		}
		for size := range 67 {
			if e := endIn(state); state != impl.AscEchoes && size > 0 || state == impl.AscEchoes && (size == 0 || size > 64) {
				e.Cookie = counted(size)
				list = append(list, e)
			}
		}
		// What a state has not.
		if state == impl.AscClosed {
			turn(state, "Tag", 1)
			turn(state, "Tag", 10)
			turn(state, "Tsn", 1)
		}
		if state == impl.AscClosed || state == impl.AscWaits {
			turn(state, "PeerTag", 1)
			turn(state, "PeerTsn", 1)
			turn(state, "Streams", 1)
		} else {
			turn(state, "PeerTag", 0)
			turn(state, "Streams", 0)
		}
		if state == impl.AscClosed || state == impl.AscUp {
			turn(state, "Tries", 1)
			turn(state, "Left", 1)
		} else {
			turn(state, "Left", 0)
		}
		// A tag that is not above Last, or is not Last.
		if state == impl.AscWaits || state == impl.AscEchoes {
			turn(state, "Last", 10)
			turn(state, "Last", 11)
			turn(state, "Tag", 9)
			turn(state, "Tag", 0)
		}
		if state >= impl.AscUp {
			turn(state, "Last", 9)
			turn(state, "Last", 11)
			turn(state, "Last", 0)
			turn(state, "Tag", 0)
		}
	}
	return append(list, impl.AscEnd{}, impl.AscEnd{Me: 1, Peer: 3, Secret: 7, Wish: 5, State: impl.AscUp, PeerTag: 20, Streams: 1})
}

func TestAscEndOkRefuses(t *testing.T) {
	for _, e := range badEnds() {
		if impl.AscEndOk(e) || slowEndOk(e) {
			t.Errorf("%v is ok", e)
		}
	}
}

func TestAscEndOkOfAnEmptyCookie(t *testing.T) {
	for state := range 6 {
		e := endIn(state)
		if len(e.Cookie) == 0 {
			e.Cookie = make([]byte, 0, 9)
			if !impl.AscEndOk(e) {
				t.Errorf("state %d: an empty cookie is not as none", state)
			}
		}
	}
}

// All functions at an end that is not ok: nothing, and the code 1 where codes are told.
func TestAscRefusesEndsThatAreNotOk(t *testing.T) {
	for _, e := range badEnds() {
		for kind := range 15 {
			p := toEnd(e, max(e.Tag, 1), wordOf(kind))
			if got := answerOf(impl.AscHear(e, p, 5, 30, 300)); !sameAnswers(got, answer{}) {
				t.Fatalf("AscHear of %v: %v", e, got)
			}
		}
		if got := answerOf(impl.AscHear(e, toEnd(e, 0, wordOf(impl.FrmInit)), 5, 30, 300)); !sameAnswers(got, answer{}) {
			t.Fatalf("AscHear of %v: %v", e, got)
		}
		if got := answerOf(impl.AscTick(e)); !sameAnswers(got, answer{}) {
			t.Fatalf("AscTick of %v: %v", e, got)
		}
		for _, n := range []int{30, -1, 0, 4294967296} {
			if got := answerOf(impl.AscStart(e, n, n)); !sameAnswers(got, answer{code: 1}) {
				t.Fatalf("AscStart of %v: %v", e, got)
			}
			if got := answerOf(impl.AscClose(e, n, n == 0)); !sameAnswers(got, answer{code: 1}) {
				t.Fatalf("AscClose of %v: %v", e, got)
			}
		}
	}
}

func TestAscStartSaysTheFirstWord(t *testing.T) {
	for _, x := range []struct{ last, tag, tsn int }{{0, 1, 0}, {9, 10, 100}, {9, 4294967295, 4294967295}, {4294967294, 4294967295, 0}} {
		e := endIn(impl.AscClosed)
		e.Last = x.last
		want := e
		want.State, want.Tag, want.Tsn, want.Left = impl.AscWaits, x.tag, x.tsn, 3
		says := []impl.FrmPacket{{From: 1, To: 3, Chunks: []impl.FrmChunk{{Kind: impl.FrmInit, Tag: x.tag, Window: 4096, Stream: 5, Tsn: x.tsn}}}}
		got := answerOf(impl.AscStart(e, x.tag, x.tsn))
		if !sameAnswers(got, answer{want, says, 0}) || !impl.AscEndOk(got.end) || !impl.FrmOk(got.says[0]) {
			t.Errorf("%v: %v", x, got)
		}
	}
}

// A tag that is not above Last, or not long, and a number that is not long, are found ahead of another state.
func TestAscStartRefuses(t *testing.T) {
	for _, e := range edgeEnds() {
		for _, tag := range append([]int{e.Last - 1, e.Last, e.Last + 1, e.Tag}, wide...) {
			for _, tsn := range []int{-1, 0, 100, 4294967295, 4294967296, math.MinInt, math.MaxInt} {
				want := answer{end: e}
				switch {
				case tag <= e.Last || tag > 4294967295 || tsn < 0 || tsn > 4294967295:
					want.code = 2
				case e.State != impl.AscClosed:
					want.code = 3
				default:
					continue
				}
				if got := answerOf(impl.AscStart(e, tag, tsn)); !sameAnswers(got, want) {
					t.Fatalf("%v with %d and %d: %v, want %v", e, tag, tsn, got, want)
				}
			}
		}
	}
}

func TestAscCloseInGoodOrder(t *testing.T) {
	for _, at := range []int{0, 1, 77, 4294967295} {
		e := endIn(impl.AscUp)
		want := e
		want.State, want.PeerTsn, want.Left = impl.AscShuts, at, 3
		says := []impl.FrmPacket{{From: 1, To: 3, Tag: 20, Chunks: []impl.FrmChunk{{Kind: impl.FrmShut, Tsn: at}}}}
		got := answerOf(impl.AscClose(e, at, false))
		if !sameAnswers(got, answer{want, says, 0}) || !impl.AscEndOk(got.end) || !impl.FrmOk(got.says[0]) {
			t.Errorf("%d: %v", at, got)
		}
	}
}

func TestAscCloseHard(t *testing.T) {
	for _, at := range []int{0, 77, 4294967295} {
		e := endIn(impl.AscUp)
		says := []impl.FrmPacket{{From: 1, To: 3, Tag: 20, Chunks: []impl.FrmChunk{{Kind: impl.FrmAbort}}}}
		want := impl.AscEnd{Me: 1, Peer: 3, Secret: 7, Wish: 5, Last: 10}
		if got := answerOf(impl.AscClose(e, at, true)); !sameAnswers(got, answer{want, says, 0}) {
			t.Errorf("%d: %v", at, got)
		}
	}
}

func TestAscCloseRefuses(t *testing.T) {
	for _, e := range edgeEnds() {
		for _, hard := range []bool{false, true} {
			for _, at := range []int{-1, 4294967296, math.MinInt, math.MaxInt} {
				if got := answerOf(impl.AscClose(e, at, hard)); !sameAnswers(got, answer{end: e, code: 2}) {
					t.Errorf("%v at %d, %v: %v", e, at, hard, got)
				}
			}
			if e.State != impl.AscUp {
				for _, at := range []int{0, 4294967295} {
					if got := answerOf(impl.AscClose(e, at, hard)); !sameAnswers(got, answer{end: e, code: 3}) {
						t.Errorf("%v at %d, %v: %v", e, at, hard, got)
					}
				}
			}
		}
	}
}

// repeated is what an end of each state says again, as the document tells it.
func repeated(e impl.AscEnd) []impl.FrmPacket {
	switch e.State {
	case impl.AscWaits:
		return saidBy(e, 0, impl.FrmChunk{Kind: impl.FrmInit, Tag: e.Tag, Window: 4096, Stream: e.Wish, Tsn: e.Tsn})
	case impl.AscEchoes:
		return saidBy(e, e.PeerTag, impl.FrmChunk{Kind: impl.FrmEcho, Body: e.Cookie})
	case impl.AscShuts:
		return saidBy(e, e.PeerTag, impl.FrmChunk{Kind: impl.FrmShut, Tsn: e.PeerTsn})
	}
	return saidBy(e, e.PeerTag, impl.FrmChunk{Kind: impl.FrmShutAck})
}

func TestAscTickOfEachCount(t *testing.T) {
	for _, e := range edgeEnds() {
		if e.Left == 0 {
			if got := answerOf(impl.AscTick(e)); !sameAnswers(got, answer{end: e}) {
				t.Errorf("%v: %v", e, got)
			}
			continue
		}
		for tries := range 5 {
			for left := 1; left <= 3; left++ {
				e.Tries, e.Left = tries, left
				want := answer{end: e}
				want.end.Left = left - 1
				switch {
				case left > 1:
				case tries < 4:
					want.end.Tries, want.end.Left = tries+1, 3
					want.says = repeated(e)
				default:
					want.end = bareOf(e)
					if e.State == impl.AscWaits || e.State == impl.AscEchoes {
						want.code = impl.AscLost
					}
				}
				if got := answerOf(impl.AscTick(e)); !sameAnswers(got, want) || !impl.AscEndOk(got.end) {
					t.Errorf("%v: %v, want %v", e, got, want)
				}
			}
		}
	}
}

// Who hears nothing says it AscMaxTries times again, AscRto ticks apart, and closes.
func TestAscTickUntilItCloses(t *testing.T) {
	for _, state := range []int{impl.AscWaits, impl.AscEchoes, impl.AscShuts, impl.AscGoes} {
		e := endIn(state)
		e.Tries, e.Left = 0, impl.AscRto
		for tick := 1; tick <= 15; tick++ {
			got := answerOf(impl.AscTick(e))
			if (len(got.says) == 1) != (tick%3 == 0 && tick < 15) || (got.end.State == impl.AscClosed) != (tick == 15) {
				t.Errorf("state %d, tick %d: %v", state, tick, got)
			}
			if (got.code == impl.AscLost) != (tick == 15 && state < impl.AscUp) || got.code != impl.AscLost && got.code != impl.AscNone {
				t.Errorf("state %d, tick %d: %d has happened", state, tick, got.code)
			}
			e = got.end
		}
	}
}

// heard is one row of what AscHear does: with the Kind in that state, under its Tag (0), its PeerTag (1) or neither (2).
type heard struct{ state, kind, flags, under int }

// deed is what comes of it: the state behind it, the kind and tag of what is said, and what has happened.
type deed struct{ state, kind, tag, happened int }

const unsaid = -1

// deeds are all rows by which anything happens, written down from the document by hand; ends are as of endIn, other frames under 77.
var deeds = map[heard]deed{
	{impl.AscClosed, impl.FrmInit, 0, 2}: {impl.AscClosed, impl.FrmInitAck, 40, impl.AscNone},
	{impl.AscWaits, impl.FrmInit, 0, 2}:  {impl.AscWaits, impl.FrmInitAck, 40, impl.AscNone},
	{impl.AscEchoes, impl.FrmInit, 0, 2}: {impl.AscEchoes, impl.FrmInitAck, 40, impl.AscNone},
	{impl.AscUp, impl.FrmInit, 0, 2}:     {impl.AscUp, impl.FrmInitAck, 40, impl.AscNone},

	{impl.AscWaits, impl.FrmAbort, 0, 0}:  {impl.AscClosed, unsaid, 0, impl.AscLost},
	{impl.AscEchoes, impl.FrmAbort, 0, 0}: {impl.AscClosed, unsaid, 0, impl.AscLost},
	{impl.AscUp, impl.FrmAbort, 0, 0}:     {impl.AscClosed, unsaid, 0, impl.AscLost},
	{impl.AscShuts, impl.FrmAbort, 0, 0}:  {impl.AscClosed, unsaid, 0, impl.AscLost},
	{impl.AscGoes, impl.FrmAbort, 0, 0}:   {impl.AscClosed, unsaid, 0, impl.AscLost},
	{impl.AscEchoes, impl.FrmAbort, 1, 1}: {impl.AscClosed, unsaid, 0, impl.AscLost},
	{impl.AscUp, impl.FrmAbort, 1, 1}:     {impl.AscClosed, unsaid, 0, impl.AscLost},
	{impl.AscShuts, impl.FrmAbort, 1, 1}:  {impl.AscClosed, unsaid, 0, impl.AscLost},
	{impl.AscGoes, impl.FrmAbort, 1, 1}:   {impl.AscClosed, unsaid, 0, impl.AscLost},

	{impl.AscClosed, impl.FrmData, 0, 2}: {impl.AscClosed, impl.FrmAbort, 77, impl.AscNone},
	{impl.AscClosed, impl.FrmSack, 0, 2}: {impl.AscClosed, impl.FrmAbort, 77, impl.AscNone},
	{impl.AscClosed, impl.FrmBeat, 0, 2}: {impl.AscClosed, impl.FrmAbort, 77, impl.AscNone},
	{impl.AscClosed, impl.FrmShut, 0, 2}: {impl.AscClosed, impl.FrmAbort, 77, impl.AscNone},
	{impl.AscUp, impl.FrmData, 0, 2}:     {impl.AscUp, impl.FrmAbort, 77, impl.AscNone},
	{impl.AscUp, impl.FrmSack, 0, 2}:     {impl.AscUp, impl.FrmAbort, 77, impl.AscNone},
	{impl.AscUp, impl.FrmBeat, 0, 2}:     {impl.AscUp, impl.FrmAbort, 77, impl.AscNone},
	{impl.AscUp, impl.FrmShut, 0, 2}:     {impl.AscUp, impl.FrmAbort, 77, impl.AscNone},
	{impl.AscUp, impl.FrmData, 0, 1}:     {impl.AscUp, impl.FrmAbort, 20, impl.AscNone},
	{impl.AscUp, impl.FrmSack, 0, 1}:     {impl.AscUp, impl.FrmAbort, 20, impl.AscNone},
	{impl.AscUp, impl.FrmBeat, 0, 1}:     {impl.AscUp, impl.FrmAbort, 20, impl.AscNone},
	{impl.AscUp, impl.FrmShut, 0, 1}:     {impl.AscUp, impl.FrmAbort, 20, impl.AscNone},

	{impl.AscWaits, impl.FrmInitAck, 0, 0}:  {impl.AscEchoes, impl.FrmEcho, 40, impl.AscNone},
	{impl.AscEchoes, impl.FrmEchoAck, 0, 0}: {impl.AscUp, unsaid, 0, impl.AscRose},

	{impl.AscUp, impl.FrmShut, 0, 0}:       {impl.AscGoes, impl.FrmShutAck, 20, impl.AscGone},
	{impl.AscShuts, impl.FrmShut, 0, 0}:    {impl.AscGoes, impl.FrmShutAck, 20, impl.AscNone},
	{impl.AscGoes, impl.FrmShut, 0, 0}:     {impl.AscGoes, impl.FrmShutAck, 20, impl.AscNone},
	{impl.AscShuts, impl.FrmShutAck, 0, 0}: {impl.AscClosed, impl.FrmShutDone, 20, impl.AscNone},
	{impl.AscGoes, impl.FrmShutAck, 0, 0}:  {impl.AscClosed, impl.FrmShutDone, 20, impl.AscNone},
	{impl.AscGoes, impl.FrmShutDone, 0, 0}: {impl.AscClosed, unsaid, 0, impl.AscNone},

	{impl.AscUp, impl.FrmData, 0, 0}:    {impl.AscUp, unsaid, 0, impl.AscHeard},
	{impl.AscUp, impl.FrmSack, 0, 0}:    {impl.AscUp, unsaid, 0, impl.AscHeard},
	{impl.AscUp, impl.FrmBeat, 0, 0}:    {impl.AscUp, unsaid, 0, impl.AscHeard},
	{impl.AscUp, impl.FrmBeatAck, 0, 0}: {impl.AscUp, unsaid, 0, impl.AscHeard},
}

// Each kind in each state, under Tag, PeerTag and neither; what is not in the rows turns nothing, and is not answered.
func TestAscHearOfEachKind(t *testing.T) {
	used := 0
	for state := range 6 {
		for _, kind := range kindsKnown {
			for flags := range 2 {
				for under := range 3 {
					e := endIn(state)
					tag := []int{e.Tag, e.PeerTag, 77}[under]
					if flags == 1 && kind != impl.FrmAbort {
						continue
					}
					// A first word is under 0 always, and nothing else ever is.
					if kind == impl.FrmInit && under == 2 {
						tag = 0
					} else if kind == impl.FrmInit || tag == 0 {
						continue
					}
					c := wordOf(kind)
					c.Flags += flags
					row := heard{state, kind, flags, under}
					want, known := deeds[row]
					if known {
						used++
					} else {
						want = deed{state, unsaid, 0, impl.AscNone}
					}
					checkDeed(t, row, e, toEnd(e, tag, c), want)
				}
			}
		}
	}
	if used != len(deeds) {
		t.Errorf("%d rows of %d", used, len(deeds))
	}
}

func checkDeed(t *testing.T, row heard, e impl.AscEnd, p impl.FrmPacket, want deed) {
	t.Helper()
	got := answerOf(impl.AscHear(e, p, 5, 30, 300))
	if got.end.State != want.state || got.code != want.happened {
		t.Errorf("%v: %v, want %v", row, got, want)
	}
	if want.kind == unsaid && len(got.says) != 0 {
		t.Errorf("%v: it says %v", row, got.says)
	}
	if want.kind != unsaid && (len(got.says) != 1 || !impl.FrmOk(got.says[0]) || got.says[0].Chunks[0].Kind != want.kind || got.says[0].Tag != want.tag) {
		t.Errorf("%v: it says %v", row, got.says)
	}
	if want.state == e.State && !sameEnds(got.end, e) {
		t.Errorf("%v: it is %v now", row, got.end)
	}
	if want.state == impl.AscClosed && !sameEnds(got.end, bareOf(e)) {
		t.Errorf("%v: it closes to %v", row, got.end)
	}
	if slow := slowHear(e, p, 5, 30, 300); !sameAnswers(got, slow) {
		t.Errorf("%v: %v, want %v", row, got, slow)
	}
	// What stands behind the first chunk does not matter.
	if !alone(p.Chunks[0].Kind) {
		for _, kind := range kindsKnown {
			if !alone(kind) {
				p.Chunks = append(p.Chunks[:1:1], wordOf(kind))
				if again := answerOf(impl.AscHear(e, p, 5, 30, 300)); !sameAnswers(again, got) {
					t.Errorf("%v: with the kind %d behind it %v, without it %v", row, kind, again, got)
				}
			}
		}
	}
}

// All that an end hears, at the bounds of what an end may be.
func TestAscHearOfAllEnds(t *testing.T) {
	for _, e := range edgeEnds() {
		for _, c := range goodChunks() {
			for _, tag := range []int{0, e.Tag, e.PeerTag, e.Last, 77, 1, 4294967295} {
				for _, now := range []int{0, 1000000, -1, 1000001} {
					p := toEnd(e, tag, c)
					got := answerOf(impl.AscHear(e, p, now, 4294967295, 4294967295))
					if want := slowHear(e, p, now, 4294967295, 4294967295); !sameAnswers(got, want) || !impl.AscEndOk(got.end) {
						t.Fatalf("%v of %v: %v, want %v", e, p, got, want)
					}
					for _, said := range got.says {
						if !impl.FrmOk(said) {
							t.Fatalf("%v of %v: %v is not ok", e, p, said)
						}
					}
				}
			}
		}
	}
}

func TestAscHearOfFramesThatAreNotOk(t *testing.T) {
	for _, e := range edgeEnds() {
		for _, c := range []impl.FrmChunk{{Kind: impl.FrmBeat}, {Kind: impl.FrmShut}, {Kind: impl.FrmShutAck}, {Kind: impl.FrmEchoAck}, {Kind: impl.FrmAbort}, wordOf(impl.FrmInitAck), wordOf(impl.FrmData)} {
			tag := max(e.Tag, 5)
			bad := []impl.FrmPacket{toEnd(e, tag), toEnd(e, 0, c), toEnd(e, -1, c), toEnd(e, 4294967296, c), toEnd(e, tag, slices.Repeat([]impl.FrmChunk{c}, 9)...)}
			odd := c
			odd.Ssn = -1
			bad = append(bad, toEnd(e, tag, odd), toEnd(e, tag, c, odd), toEnd(e, tag, c, wordOf(impl.FrmShutDone)), toEnd(e, tag, impl.FrmChunk{Kind: 12}))
			for _, p := range bad {
				if got := answerOf(impl.AscHear(e, p, 5, 4294967295, 300)); !sameAnswers(got, answer{end: e}) {
					t.Errorf("%v of %v: %v", e, p, got)
				}
			}
		}
		first := wordOf(impl.FrmInit)
		for _, p := range []impl.FrmPacket{toEnd(e, 1, first), toEnd(e, e.Tag+5, first), toEnd(e, 0, first, first), {}} {
			if got := answerOf(impl.AscHear(e, p, 5, 4294967295, 300)); !sameAnswers(got, answer{end: e}) {
				t.Errorf("%v of %v: %v", e, p, got)
			}
		}
	}
}

func TestAscHearOfFramesOfOthers(t *testing.T) {
	for _, e := range edgeEnds() {
		for _, kind := range kindsKnown {
			for _, ids := range [][2]int{{e.Me, e.Peer}, {e.Peer, e.Peer}, {e.Me, e.Me}, {e.Peer, 500}, {500, e.Me}, {500, 501}, {-1, e.Me}, {e.Peer, 65536}} {
				p := toEnd(e, max(e.Tag, 5), wordOf(kind))
				p.From, p.To = ids[0], ids[1]
				if kind == impl.FrmInit {
					p.Tag = 0
				}
				if got := answerOf(impl.AscHear(e, p, 5, 4294967295, 300)); !sameAnswers(got, answer{end: e}) {
					t.Errorf("%v of %v: %v", e, p, got)
				}
			}
		}
	}
}

// P12: a first word allocates nothing; its answer has all that is needed in a cookie that the end would taste.
func TestAscHearOfAFirstWord(t *testing.T) {
	for state, want := range []*impl.AscCookie{
		{Me: 1, Peer: 3, Tag: 30, PeerTag: 40, Tsn: 300, PeerTsn: 400, Streams: 2, Made: 5},
		{Me: 1, Peer: 3, Tag: 10, PeerTag: 40, Tsn: 100, PeerTsn: 400, Streams: 2, Made: 5},
		{Me: 1, Peer: 3, Tag: 10, PeerTag: 40, Tsn: 100, PeerTsn: 400, Streams: 2, Made: 5},
		{Me: 1, Peer: 3, Tag: 30, PeerTag: 40, Tsn: 300, PeerTsn: 400, Streams: 2, Made: 5, OldTag: 10, OldPeerTag: 20},
		nil, nil,
	} {
		e := endIn(state)
		got := answerOf(impl.AscHear(e, toEnd(e, 0, wordOf(impl.FrmInit)), 5, 30, 300))
		if want == nil {
			if !sameAnswers(got, answer{end: e}) {
				t.Errorf("state %d: %v", state, got)
			}
			continue
		}
		body := rawCookie(*want, slowMac(7, *want))
		says := []impl.FrmPacket{{From: 1, To: 3, Tag: 40, Chunks: []impl.FrmChunk{{Kind: impl.FrmInitAck, Tag: want.Tag, Window: 4096, Stream: 5, Tsn: want.Tsn, Body: body}}}}
		if !sameAnswers(got, answer{e, says, impl.AscNone}) {
			t.Errorf("state %d: %v, want %v", state, got, says)
		}
		if _, code := impl.AscTaste(7, 1, 3, 15, got.says[0].Chunks[0].Body); code != 0 {
			t.Errorf("state %d: it would not taste it: %d", state, code)
		}
	}
}

// Streams are the lesser of both wishes, and its own wish is told.
func TestAscHearOfAFirstWordWithOtherWishes(t *testing.T) {
	for _, state := range []int{impl.AscClosed, impl.AscWaits, impl.AscEchoes, impl.AscUp} {
		for wish := 1; wish <= 8; wish++ {
			for streams := 1; streams <= 8; streams++ {
				e := endIn(state)
				e.Wish, e.Streams = wish, min(e.Streams, wish)
				p := toEnd(e, 0, impl.FrmChunk{Kind: impl.FrmInit, Tag: 40, Stream: streams})
				_, says, _ := impl.AscHear(e, p, 5, 30, 300)
				k, code := impl.AscTaste(7, 1, 3, 5, says[0].Chunks[0].Body)
				if code != 0 || k.Streams != min(wish, streams) || says[0].Chunks[0].Stream != wish {
					t.Errorf("%d and %d: %v", wish, streams, k)
				}
			}
		}
	}
}

// Nothing is said, if the cookie would not fit, or its tag is no new tag; who has a tag already needs none.
func TestAscHearOfAFirstWordInVain(t *testing.T) {
	for state := range 6 {
		for _, x := range []struct {
			now, tag, tsn int
			offers, owns  bool
		}{
			{5, 30, 300, true, true},
			{0, 11, 0, true, true},
			{1000000, 4294967295, 4294967295, true, true},
			{-1, 30, 300, false, false},
			{1000001, 30, 300, false, false},
			{math.MinInt, 30, 300, false, false},
			{math.MaxInt, 30, 300, false, false},
			{5, 9, 300, false, true},
			{5, 8, 300, false, true},
			{5, 0, 300, false, true},
			{5, -1, 300, false, true},
			{5, 4294967296, 300, false, true},
			{5, math.MaxInt, 300, false, true},
			{5, 30, -1, false, true},
			{5, 30, 4294967296, false, true},
		} {
			e := endIn(state)
			want := x.offers && (state == impl.AscClosed || state == impl.AscUp) || x.owns && (state == impl.AscWaits || state == impl.AscEchoes)
			got := answerOf(impl.AscHear(e, toEnd(e, 0, wordOf(impl.FrmInit)), x.now, x.tag, x.tsn))
			if (len(got.says) == 1) != want || !sameEnds(got.end, e) || got.code != impl.AscNone {
				t.Errorf("state %d, %v: %v", state, x, got)
			}
		}
	}
	up := endIn(impl.AscUp)
	for tag, want := range map[int]int{10: 0, 11: 1} {
		if _, says, _ := impl.AscHear(up, toEnd(up, 0, wordOf(impl.FrmInit)), 5, tag, 300); len(says) != want {
			t.Errorf("the tag %d, Last being 10: %v", tag, says)
		}
	}
}

// cookieFor is a cookie for endIn, under its secret.
func cookieFor(turn func(k *impl.AscCookie)) impl.FrmChunk {
	k := impl.AscCookie{Me: 1, Peer: 3, Tag: 30, PeerTag: 40, Tsn: 300, PeerTsn: 400, Streams: 2, Made: 5}
	turn(&k)
	return impl.FrmChunk{Kind: impl.FrmEcho, Body: impl.AscBake(7, k)}
}

func TestAscHearTakesACookie(t *testing.T) {
	taken := impl.AscEnd{Me: 1, Peer: 3, Secret: 7, Wish: 5, Last: 30, State: impl.AscUp, Tag: 30, PeerTag: 40, Tsn: 300, PeerTsn: 400, Streams: 2}
	own := taken
	own.Last, own.Tag = 10, 10
	ack := []impl.FrmPacket{{From: 1, To: 3, Tag: 40, Chunks: []impl.FrmChunk{{Kind: impl.FrmEchoAck}}}}
	for i, x := range []struct {
		state, under, now int
		turn              func(k *impl.AscCookie)
		want              answer
	}{
		{impl.AscClosed, 30, 5, func(k *impl.AscCookie) {}, answer{taken, ack, impl.AscRose}},
		{impl.AscClosed, 30, 15, func(k *impl.AscCookie) { k.OldTag, k.OldPeerTag = 1, 2 }, answer{taken, ack, impl.AscRose}},
		{impl.AscClosed, 10, 5, func(k *impl.AscCookie) { k.Tag = 10 }, answer{own, ack, impl.AscRose}},
		{impl.AscWaits, 10, 5, func(k *impl.AscCookie) { k.Tag = 10 }, answer{own, ack, impl.AscRose}},
		{impl.AscEchoes, 10, 5, func(k *impl.AscCookie) { k.Tag = 10 }, answer{own, ack, impl.AscRose}},
		{impl.AscUp, 30, 5, func(k *impl.AscCookie) { k.OldTag, k.OldPeerTag = 10, 20 }, answer{taken, ack, impl.AscAnew}},
	} {
		e := endIn(x.state)
		got := answerOf(impl.AscHear(e, toEnd(e, x.under, cookieFor(x.turn)), x.now, 0, 0))
		if !sameAnswers(got, x.want) || !impl.AscEndOk(got.end) {
			t.Errorf("case %d: %v, want %v", i, got, x.want)
		}
	}
}

func TestAscHearRefusesACookie(t *testing.T) {
	for i, x := range []struct {
		state, under, now int
		turn              func(k *impl.AscCookie)
	}{
		// It is not tasted.
		{impl.AscClosed, 30, 4, func(k *impl.AscCookie) {}},
		{impl.AscClosed, 30, 16, func(k *impl.AscCookie) {}},
		{impl.AscClosed, 30, 5, func(k *impl.AscCookie) { k.Me = 3 }},
		{impl.AscClosed, 30, 5, func(k *impl.AscCookie) { k.Peer = 1 }},
		// The frame is under another tag.
		{impl.AscClosed, 31, 5, func(k *impl.AscCookie) {}},
		{impl.AscClosed, 40, 5, func(k *impl.AscCookie) {}},
		{impl.AscWaits, 10, 5, func(k *impl.AscCookie) {}},
		{impl.AscUp, 10, 5, func(k *impl.AscCookie) { k.OldTag, k.OldPeerTag = 10, 20 }},
		// More streams than it would have.
		{impl.AscClosed, 30, 5, func(k *impl.AscCookie) { k.Streams = 6 }},
		{impl.AscUp, 30, 5, func(k *impl.AscCookie) { k.Streams, k.OldTag, k.OldPeerTag = 6, 10, 20 }},
		{impl.AscUp, 10, 5, func(k *impl.AscCookie) { k.Streams, k.Tag, k.PeerTag = 6, 10, 20 }},
		// The tag is not above Last.
		{impl.AscClosed, 9, 5, func(k *impl.AscCookie) { k.Tag = 9 }},
		{impl.AscClosed, 8, 5, func(k *impl.AscCookie) { k.Tag = 8 }},
		{impl.AscUp, 10, 5, func(k *impl.AscCookie) { k.Tag = 10 }},
		{impl.AscUp, 10, 5, func(k *impl.AscCookie) { k.Tag, k.OldTag, k.OldPeerTag = 10, 10, 20 }},
		{impl.AscUp, 9, 5, func(k *impl.AscCookie) { k.Tag, k.OldTag, k.OldPeerTag = 9, 10, 20 }},
		// Another tag than its own one.
		{impl.AscWaits, 30, 5, func(k *impl.AscCookie) {}},
		{impl.AscEchoes, 30, 5, func(k *impl.AscCookie) {}},
		{impl.AscEchoes, 30, 5, func(k *impl.AscCookie) { k.OldTag, k.OldPeerTag = 10, 20 }},
		// Another epoch than the one that it is in.
		{impl.AscUp, 30, 5, func(k *impl.AscCookie) {}},
		{impl.AscUp, 30, 5, func(k *impl.AscCookie) { k.OldTag = 10 }},
		{impl.AscUp, 30, 5, func(k *impl.AscCookie) { k.OldPeerTag = 20 }},
		{impl.AscUp, 30, 5, func(k *impl.AscCookie) { k.OldTag, k.OldPeerTag = 20, 10 }},
		{impl.AscShuts, 10, 5, func(k *impl.AscCookie) { k.Tag, k.PeerTag = 10, 20 }},
		{impl.AscShuts, 30, 5, func(k *impl.AscCookie) { k.OldTag, k.OldPeerTag = 10, 20 }},
		{impl.AscGoes, 10, 5, func(k *impl.AscCookie) { k.Tag, k.PeerTag = 10, 20 }},
		{impl.AscGoes, 30, 5, func(k *impl.AscCookie) { k.OldTag, k.OldPeerTag = 10, 20 }},
	} {
		e := endIn(x.state)
		if got := answerOf(impl.AscHear(e, toEnd(e, x.under, cookieFor(x.turn)), x.now, 50, 500)); !sameAnswers(got, answer{end: e}) {
			t.Errorf("case %d: %v", i, got)
		}
	}
	for state := range 6 {
		e := endIn(state)
		e.Secret = 8
		if got := answerOf(impl.AscHear(e, toEnd(e, 30, cookieFor(func(k *impl.AscCookie) {})), 5, 50, 500)); !sameAnswers(got, answer{end: e}) {
			t.Errorf("state %d under another secret: %v", state, got)
		}
	}
}

// A cookie that comes twice is answered once more, whatever else it tells, and turns nothing.
func TestAscHearOfACookieTwice(t *testing.T) {
	for _, turn := range []func(k *impl.AscCookie){
		func(k *impl.AscCookie) {},
		func(k *impl.AscCookie) { k.Tsn, k.PeerTsn, k.Streams = 9, 9, 5 },
		func(k *impl.AscCookie) { k.OldTag, k.OldPeerTag = 10, 20 },
		func(k *impl.AscCookie) { k.OldTag, k.OldPeerTag = 3, 4 },
	} {
		e := endIn(impl.AscUp)
		c := cookieFor(func(k *impl.AscCookie) {
			k.Tag, k.PeerTag = 10, 20
			turn(k)
		})
		says := []impl.FrmPacket{{From: 1, To: 3, Tag: 20, Chunks: []impl.FrmChunk{{Kind: impl.FrmEchoAck}}}}
		if got := answerOf(impl.AscHear(e, toEnd(e, 10, c), 5, 50, 500)); !sameAnswers(got, answer{e, says, impl.AscNone}) {
			t.Errorf("%v", got)
		}
	}
}

func TestAscHearOfAnAnswerToTheFirstWord(t *testing.T) {
	for streams := 1; streams <= 8; streams++ {
		e := endIn(impl.AscWaits)
		for _, size := range []int{1, 44, 64} {
			c := impl.FrmChunk{Kind: impl.FrmInitAck, Tag: 4294967295, Window: 65535, Stream: streams, Tsn: 4294967295, Body: counted(size)}
			want := e
			want.State, want.PeerTag, want.PeerTsn, want.Streams, want.Cookie, want.Tries, want.Left = impl.AscEchoes, 4294967295, 4294967295, min(5, streams), counted(size), 0, 3
			says := []impl.FrmPacket{{From: 1, To: 3, Tag: 4294967295, Chunks: []impl.FrmChunk{{Kind: impl.FrmEcho, Body: counted(size)}}}}
			if got := answerOf(impl.AscHear(e, toEnd(e, 10, c), 5, 30, 300)); !sameAnswers(got, answer{want, says, impl.AscNone}) || !impl.AscEndOk(got.end) {
				t.Errorf("%d streams, %d bytes: %v", streams, size, got)
			}
		}
	}
}

func TestAscHearComesUp(t *testing.T) {
	e := endIn(impl.AscEchoes)
	want := impl.AscEnd{Me: 1, Peer: 3, Secret: 7, Wish: 5, Last: 10, State: impl.AscUp, Tag: 10, PeerTag: 20, Tsn: 100, PeerTsn: 200, Streams: 4}
	if got := answerOf(impl.AscHear(e, toEnd(e, 10, impl.FrmChunk{Kind: impl.FrmEchoAck}), 5, 30, 300)); !sameAnswers(got, answer{want, nil, impl.AscRose}) {
		t.Errorf("%v", got)
	}
}

// Who goes already begins to count anew only if it did not go.
func TestAscHearOfShut(t *testing.T) {
	for state, happened := range map[int]int{impl.AscUp: impl.AscGone, impl.AscShuts: impl.AscNone, impl.AscGoes: impl.AscNone} {
		e := endIn(state)
		want := e
		if want.State != impl.AscGoes {
			want.State, want.Tries, want.Left = impl.AscGoes, 0, 3
		}
		says := []impl.FrmPacket{{From: 1, To: 3, Tag: 20, Chunks: []impl.FrmChunk{{Kind: impl.FrmShutAck}}}}
		if got := answerOf(impl.AscHear(e, toEnd(e, 10, impl.FrmChunk{Kind: impl.FrmShut, Tsn: 6}), 5, 30, 300)); !sameAnswers(got, answer{want, says, happened}) {
			t.Errorf("state %d: %v", state, got)
		}
	}
}

func TestAscHearAnswersStrays(t *testing.T) {
	for _, state := range []int{impl.AscClosed, impl.AscUp} {
		for _, kind := range []int{impl.FrmData, impl.FrmSack, impl.FrmBeat, impl.FrmShut} {
			for _, tag := range []int{1, 9, 11, 20, 4294967295} {
				e := endIn(state)
				says := []impl.FrmPacket{{From: 1, To: 3, Tag: tag, Chunks: []impl.FrmChunk{{Kind: impl.FrmAbort, Flags: 1, Cause: 2}}}}
				if got := answerOf(impl.AscHear(e, toEnd(e, tag, wordOf(kind)), 5, 30, 300)); !sameAnswers(got, answer{e, says, impl.AscNone}) {
					t.Errorf("state %d, kind %d under %d: %v", state, kind, tag, got)
				}
			}
		}
	}
}

// An abort with any cause is one.
func TestAscHearOfAbort(t *testing.T) {
	for _, cause := range []int{0, 1, 2, 65535} {
		for state := impl.AscWaits; state <= impl.AscGoes; state++ {
			e := endIn(state)
			for _, x := range []struct {
				flags, tag int
				closes     bool
			}{{0, 10, true}, {1, 10, false}, {0, 20, false}, {1, 20, state != impl.AscWaits}, {0, 77, false}, {1, 77, false}} {
				want := answer{end: e}
				if x.closes {
					want = answer{bareOf(e), nil, impl.AscLost}
				}
				c := impl.FrmChunk{Kind: impl.FrmAbort, Flags: x.flags, Cause: cause}
				if got := answerOf(impl.AscHear(e, toEnd(e, x.tag, c), 5, 30, 300)); !sameAnswers(got, want) {
					t.Errorf("state %d, %v: %v", state, x, got)
				}
			}
			// Both ends may have the same tag.
			e.PeerTag = e.Tag
			for flags := range 2 {
				c := impl.FrmChunk{Kind: impl.FrmAbort, Flags: flags}
				if state != impl.AscWaits {
					if got := answerOf(impl.AscHear(e, toEnd(e, 10, c), 5, 30, 300)); !sameAnswers(got, answer{bareOf(e), nil, impl.AscLost}) {
						t.Errorf("state %d, flags %d: %v", state, flags, got)
					}
				}
			}
		}
	}
}

// P40: a line that is closed opens for nobody who brings no cookie; a frame under neither tag turns only with one.
func TestAscHearTurnsNothingWithoutACookie(t *testing.T) {
	for _, e := range edgeEnds() {
		for _, c := range goodChunks() {
			if c.Kind == impl.FrmEcho {
				continue
			}
			for _, tag := range []int{0, 1, 2, 5, 9, 10, 20, 77, e.Last, 4294967294, 4294967295} {
				if e.State != impl.AscClosed && (tag == e.Tag || tag == e.PeerTag) && c.Kind != impl.FrmInit {
					continue
				}
				end, _, happened := impl.AscHear(e, toEnd(e, tag, c), 5, 4294967295, 300)
				if !sameEnds(end, e) || happened != impl.AscNone {
					t.Fatalf("%v of %v under %d: %v, %d", e, c, tag, end, happened)
				}
			}
		}
	}
}

// spoilt fills all lists of an answer, spare room included.
func spoilt(a answer) {
	fullRoom(a.end.Cookie)
	for _, p := range a.says {
		for _, c := range p.Chunks {
			fullRoom(c.Body)
		}
	}
}

// keptOf is an end with a cookie and room behind it.
func keptOf(e impl.AscEnd) (impl.AscEnd, []byte) {
	room := append(slices.Clone(e.Cookie), 55, 56)
	if len(e.Cookie) > 0 {
		e.Cookie = room[:len(e.Cookie)]
	}
	return e, room
}

func TestAscAnswersAreNewMemory(t *testing.T) {
	calls := []func(e impl.AscEnd) answer{
		func(e impl.AscEnd) answer { return answerOf(impl.AscTick(e)) },
		func(e impl.AscEnd) answer { return answerOf(impl.AscStart(e, 4294967295, 0)) },
		func(e impl.AscEnd) answer { return answerOf(impl.AscStart(e, 0, 0)) },
		func(e impl.AscEnd) answer { return answerOf(impl.AscClose(e, 0, false)) },
		func(e impl.AscEnd) answer { return answerOf(impl.AscClose(e, -1, false)) },
		func(e impl.AscEnd) answer { return answerOf(impl.AscHear(e, impl.FrmPacket{}, 5, 30, 300)) },
		func(e impl.AscEnd) answer {
			return answerOf(impl.AscHear(e, toEnd(e, e.Tag, wordOf(impl.FrmError)), 5, 30, 300))
		},
		func(e impl.AscEnd) answer {
			return answerOf(impl.AscHear(e, toEnd(e, 0, wordOf(impl.FrmInit)), 5, 30, 300))
		},
	}
	for _, base := range edgeEnds() {
		if base.Left > 0 {
			base.Tries, base.Left = 0, 1
		}
		for i, call := range calls {
			e, room := keptOf(base)
			kept := slices.Clone(room)
			got := call(e)
			want := call(base)
			if !bytes.Equal(room, kept) || !sameAnswers(got, want) {
				t.Fatalf("call %d of %v: its argument is another one now", i, base)
			}
			spoilt(got)
			if !bytes.Equal(room, kept) || !sameAnswers(call(base), want) {
				t.Fatalf("call %d of %v: what is answered lies in the argument", i, base)
			}
		}
	}
}

func TestAscListsOfOneAnswerAreApart(t *testing.T) {
	waits, echoes := endIn(impl.AscWaits), endIn(impl.AscEchoes)
	echoes.Left = 1
	room := append(counted(44), 55, 56)
	ack := wordOf(impl.FrmInitAck)
	ack.Body = room[:44]
	for i, got := range []answer{answerOf(impl.AscHear(waits, toEnd(waits, 10, ack), 5, 30, 300)), answerOf(impl.AscTick(echoes))} {
		fullRoom(got.end.Cookie)
		if !bytes.Equal(got.says[0].Chunks[0].Body, counted(44)) || !bytes.Equal(room, append(counted(44), 55, 56)) {
			t.Errorf("case %d: the cookie lies elsewhere too", i)
		}
		fullRoom(got.says[0].Chunks[0].Body)
		if !bytes.Equal(room, append(counted(44), 55, 56)) || !bytes.Equal(echoes.Cookie, counted(44)) {
			t.Errorf("case %d: what is said lies in the argument", i)
		}
	}
}
