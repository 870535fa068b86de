package tests

import (
	"math/rand"
	"slices"
	"testing"

	"loop.example/trunk/impl"
)

// node has one end of a line; it gives each tag once, and has another secret behind each fall.
type node struct {
	end    impl.AscEnd
	tags   int
	secret int
	// used are the tags under which it was up, rose the frames by which it came up since its last fall.
	used []int
	rose []impl.FrmPacket
}

// pair is two nodes, what is under way between them, and all that ever was.
type pair struct {
	t     *testing.T
	nodes [2]*node
	now   int
	air   []impl.FrmPacket
	late  []impl.FrmPacket
	// happened counts what has happened by frames.
	happened [6]int
}

func newPair(t *testing.T, wishes [2]int) *pair {
	p := &pair{t: t, nodes: [2]*node{{tags: 100, secret: 1000}, {tags: 200, secret: 2000}}}
	for i, n := range p.nodes {
		n.end = impl.AscEnd{Me: 1 + 2*i, Peer: 3 - 2*i, Secret: n.secret, Wish: wishes[i]}
	}
	return p
}

func (n *node) give() int {
	n.tags++
	return n.tags
}

func (p *pair) says(frames []impl.FrmPacket) {
	for _, f := range frames {
		if !impl.FrmOk(f) {
			p.t.Fatalf("%v is not ok", f)
		}
	}
	p.air = append(p.air, frames...)
	p.late = append(p.late, frames...)
}

// turns sets an end to what it is behind something, and holds what has happened against the promises.
func (p *pair) turns(n *node, a answer, frame impl.FrmPacket) {
	p.t.Helper()
	if !impl.AscEndOk(a.end) {
		p.t.Fatalf("%v is not ok", a.end)
	}
	if a.code == impl.AscRose || a.code == impl.AscAnew {
		if slices.Contains(n.used, a.end.Tag) {
			p.t.Fatalf("%v is up under a tag under which it was", a.end)
		}
		n.used = append(n.used, a.end.Tag)
		n.rose = append(n.rose, frame)
	}
	n.end = a.end
	p.says(a.says)
	p.agree()
	if n.end.State == impl.AscClosed {
		p.staysClosed(n)
	}
}

// agree is P10: ends that are up under each other's tags agree.
func (p *pair) agree() {
	p.t.Helper()
	if p.one() {
		a, b := p.nodes[0].end, p.nodes[1].end
		if a.Tsn != b.PeerTsn || b.Tsn != a.PeerTsn || a.Streams != b.Streams {
			p.t.Fatalf("%v and %v do not agree", a, b)
		}
	}
}

// one says whether both are up in one epoch.
func (p *pair) one() bool {
	a, b := p.nodes[0].end, p.nodes[1].end
	return a.State == impl.AscUp && b.State == impl.AscUp && a.Tag == b.PeerTag && b.Tag == a.PeerTag
}

// staysClosed is P57: what it came up by turns an end that is closed no more.
func (p *pair) staysClosed(n *node) {
	p.t.Helper()
	for _, f := range n.rose {
		for _, now := range []int{p.now, max(p.now-5, 0), p.now + 5} {
			got := answerOf(impl.AscHear(n.end, f, now, n.tags+1, 7))
			if !sameEnds(got.end, n.end) || got.code != impl.AscNone {
				p.t.Fatalf("%v comes up once more by %v: %v", n.end, f, got)
			}
		}
	}
}

func (p *pair) to(f impl.FrmPacket) *node {
	if f.To == p.nodes[0].end.Me {
		return p.nodes[0]
	}
	return p.nodes[1]
}

// brings lets a frame be heard, and holds that against the document's lines.
func (p *pair) brings(f impl.FrmPacket) int {
	p.t.Helper()
	n := p.to(f)
	tag := n.give()
	e := n.end
	got := answerOf(impl.AscHear(e, f, p.now, tag, 10*tag))
	if want := slowHear(e, f, p.now, tag, 10*tag); !sameAnswers(got, want) {
		p.t.Fatalf("%v of %v: %v, want %v", e, f, got, want)
	}
	kind := f.Chunks[0].Kind
	if kind == impl.FrmInit {
		p.firstWord(e, f, got)
	}
	strange := e.State == impl.AscClosed || f.Tag != e.Tag && f.Tag != e.PeerTag
	if strange && kind != impl.FrmEcho && !sameEnds(got.end, e) {
		p.t.Fatalf("%v is turned by %v", e, f)
	}
	p.turns(n, got, f)
	p.happened[got.code]++
	return got.code
}

// firstWord is P12.
func (p *pair) firstWord(e impl.AscEnd, f impl.FrmPacket, got answer) {
	p.t.Helper()
	if !sameEnds(got.end, e) || got.code != impl.AscNone || len(got.says) > 1 {
		p.t.Fatalf("%v keeps something of %v: %v", e, f, got)
	}
	for _, said := range got.says {
		c := said.Chunks[0]
		_, code := impl.AscTaste(e.Secret, e.Me, e.Peer, p.now, c.Body)
		if len(said.Chunks) != 1 || c.Kind != impl.FrmInitAck || said.Tag != f.Chunks[0].Tag || code != 0 {
			p.t.Fatalf("%v answers %v to %v", e, said, f)
		}
	}
}

func (p *pair) starts(n *node) {
	if n.end.State == impl.AscClosed {
		tag := n.give()
		p.turns(n, answerOf(impl.AscStart(n.end, tag, 10*tag)), impl.FrmPacket{})
	}
}

func (p *pair) ticks(n *node) {
	p.turns(n, answerOf(impl.AscTick(n.end)), impl.FrmPacket{})
}

func (p *pair) beats(n *node) {
	if n.end.State == impl.AscUp {
		p.says(saidBy(n.end, n.end.PeerTag, impl.FrmChunk{Kind: impl.FrmBeat}))
	}
}

func (p *pair) closes(n *node, hard bool) {
	if n.end.State == impl.AscUp {
		a := answerOf(impl.AscClose(n.end, 44, hard))
		if a.code != 0 {
			p.t.Fatalf("%v does not close: %v", n.end, a)
		}
		p.turns(n, a, impl.FrmPacket{})
	}
}

// falls: all is forgotten but for who it is, which tags it gave, and that its secret is another one.
func (p *pair) falls(n *node) {
	n.secret++
	n.end = impl.AscEnd{Me: n.end.Me, Peer: n.end.Peer, Secret: n.secret, Wish: n.end.Wish}
	n.rose = nil
}

// forged is a frame of one who knows no tag and no secret.
func (p *pair) forged(chance *rand.Rand, n *node) impl.FrmPacket {
	c := wordOf(kindsKnown[chance.Intn(len(kindsKnown))])
	f := toEnd(n.end, 50+chance.Intn(20), c)
	if c.Kind == impl.FrmInit {
		f.Tag = 0
		f.Chunks[0].Tag = 50
	}
	return f
}

// step is something that happens, by chance.
func (p *pair) step(chance *rand.Rand) {
	n := p.nodes[chance.Intn(2)]
	switch chance.Intn(24) {
	case 0, 1, 2:
		p.starts(n)
	case 3, 4:
		p.now++
		p.ticks(n)
	case 5:
		p.beats(n)
	case 6:
		p.closes(n, chance.Intn(2) == 0)
	case 7:
		if chance.Intn(3) == 0 {
			p.falls(n)
		}
	case 8:
		p.brings(p.forged(chance, n))
	case 9, 10, 11:
		if len(p.late) > 0 {
			p.brings(p.late[len(p.late)-1-chance.Intn(min(len(p.late), 40))])
		}
	case 12:
		if len(p.air) > 0 {
			p.takes(chance.Intn(len(p.air)))
		}
	case 13:
		if len(p.air) > 0 {
			p.brings(p.air[chance.Intn(len(p.air))])
		}
	default:
		if len(p.air) > 0 {
			p.brings(p.takes(chance.Intn(min(len(p.air), 3))))
		}
	}
}

func (p *pair) takes(at int) impl.FrmPacket {
	f := p.air[at]
	p.air = slices.Delete(p.air, at, at+1)
	return f
}

// round brings all frames: those that are under way, or all answers to them as well.
func (p *pair) round(starters []int, deep bool) {
	p.now++
	for _, n := range p.nodes {
		p.ticks(n)
		p.beats(n)
	}
	for _, i := range starters {
		p.starts(p.nodes[i])
	}
	for left := len(p.air); left > 0; left-- {
		p.brings(p.takes(0))
		if deep && left == 1 {
			left = len(p.air) + 1
		}
	}
}

// comes is P11: within 40 rounds both are up in one epoch, and stay so.
func (p *pair) comes(starters []int, deep bool) {
	p.t.Helper()
	rounds := 0
	for ; !p.one(); rounds++ {
		if rounds == 40 {
			p.t.Fatalf("behind 40 rounds with the starters %v, deep %v: %v and %v", starters, deep, p.nodes[0].end, p.nodes[1].end)
		}
		p.round(starters, deep)
	}
	a, b := p.nodes[0].end, p.nodes[1].end
	for range 5 {
		p.round(starters, deep)
	}
	if !sameEnds(a, p.nodes[0].end) || !sameEnds(b, p.nodes[1].end) {
		p.t.Fatalf("it does not stay so: %v and %v", p.nodes[0].end, p.nodes[1].end)
	}
}

var eachStarter = [][]int{{0}, {1}, {0, 1}, {1, 0}}

// upPair is two ends that are up in one epoch, with nothing under way.
func upPair(t *testing.T, wishes [2]int) *pair {
	p := newPair(t, wishes)
	p.starts(p.nodes[0])
	for len(p.air) > 0 {
		p.brings(p.takes(0))
	}
	if !p.one() {
		t.Fatalf("%v and %v are not up", p.nodes[0].end, p.nodes[1].end)
	}
	return p
}

// Four frames from closed to up at both ends.
func TestAscPairComesUpByFourFrames(t *testing.T) {
	for a := 1; a <= 8; a++ {
		for b := 1; b <= 8; b++ {
			p := newPair(t, [2]int{a, b})
			p.starts(p.nodes[0])
			for i, want := range []struct{ kind, happened int }{
				{impl.FrmInit, impl.AscNone}, {impl.FrmInitAck, impl.AscNone}, {impl.FrmEcho, impl.AscRose}, {impl.FrmEchoAck, impl.AscRose},
			} {
				if len(p.air) != 1 || p.air[0].Chunks[0].Kind != want.kind {
					t.Fatalf("frame %d: %v", i, p.air)
				}
				if p.one() {
					t.Fatalf("it is up ahead of the frame %d", i)
				}
				if happened := p.brings(p.takes(0)); happened != want.happened {
					t.Fatalf("frame %d: %d has happened", i, happened)
				}
			}
			if !p.one() || len(p.air) != 0 || p.nodes[0].end.Streams != min(a, b) || p.nodes[1].end.Streams != min(a, b) {
				t.Fatalf("wishes %d and %d: %v and %v", a, b, p.nodes[0].end, p.nodes[1].end)
			}
		}
	}
}

// Both begin at once: whatever comes first, and whatever is lost, they come to one epoch.
func TestAscPairBeginsAtOnce(t *testing.T) {
	for seed := range int64(400) {
		chance := rand.New(rand.NewSource(seed))
		p := newPair(t, [2]int{3, 2})
		p.starts(p.nodes[0])
		p.starts(p.nodes[1])
		for range 12 {
			if len(p.air) > 0 {
				f := p.takes(chance.Intn(len(p.air)))
				if chance.Intn(8) > 0 || seed < 100 {
					p.brings(f)
				}
			}
		}
		if seed < 100 && !p.one() {
			t.Fatalf("nothing was lost: %v and %v", p.nodes[0].end, p.nodes[1].end)
		}
		p.comes(eachStarter[seed%4], seed%8 < 4)
	}
}

// P10, P12, P40 and P57, whatever happens; and P11 behind it.
func TestAscPairWhateverHappens(t *testing.T) {
	var happened, states [6]int
	agreed := 0
	for seed := range int64(600) {
		chance := rand.New(rand.NewSource(1000 + seed))
		p := newPair(t, [2]int{1 + chance.Intn(8), 1 + chance.Intn(8)})
		for range 150 {
			p.step(chance)
			states[p.nodes[0].end.State]++
			if p.one() {
				agreed++
			}
		}
		for i, times := range p.happened {
			happened[i] += times
		}
		if seed%2 == 0 {
			p.air = nil
		}
		p.comes(eachStarter[seed%4], seed%8 < 4)
	}
	if agreed < 500 {
		t.Errorf("agreed %d times alone", agreed)
	}
	for i := range 6 {
		if states[i] < 100 || happened[i] < 30 {
			t.Errorf("state %d was seen %d times alone, and %d has happened %d times", i, states[i], i, happened[i])
		}
	}
}

// P11: from each pair of states, in one epoch or in others.
func TestAscPairFromEachState(t *testing.T) {
	for a := range 6 {
		for b := range 6 {
			for _, starters := range eachStarter {
				for _, deep := range []bool{false, true} {
					for shift := range 2 {
						p := newPair(t, [2]int{5, 5})
						p.nodes[0].end = endIn(a)
						p.nodes[1].end = mirrored(endIn(b), 50*shift)
						for _, n := range p.nodes {
							if n.end.State == impl.AscUp {
								n.used = append(n.used, n.end.Tag)
							}
						}
						p.comes(starters, deep)
					}
				}
			}
		}
	}
}

// mirrored is the end at the other side, in the same epoch or, shifted, in another one.
func mirrored(e impl.AscEnd, shift int) impl.AscEnd {
	e.Me, e.Peer = 3, 1
	if e.State == impl.AscClosed {
		return e
	}
	e.Tag, e.PeerTag, e.Tsn, e.PeerTsn = 20+shift, 10+shift, 200, 100
	if e.State >= impl.AscUp {
		e.Last = e.Tag
	}
	if e.State == impl.AscWaits {
		e.PeerTag, e.PeerTsn = 0, 0
	}
	return e
}

// P39: when one end falls and rises, both soon are in a new epoch, each under another tag.
func TestAscPairBehindAFall(t *testing.T) {
	for _, deep := range []bool{false, true} {
		for _, starters := range eachStarter {
			for fallen := range 2 {
				p := upPair(t, [2]int{3, 2})
				olds := [2]int{p.nodes[0].end.Tag, p.nodes[1].end.Tag}
				p.falls(p.nodes[fallen])
				p.comes(starters, deep)
				for i, n := range p.nodes {
					if n.end.Tag == olds[i] {
						t.Errorf("the node %d is up under its old tag", i)
					}
				}
			}
		}
	}
}

// Who has fallen begins anew while the other one is up: that one goes from one epoch into the other one by the cookie alone.
func TestAscPairBeginsAnew(t *testing.T) {
	p := upPair(t, [2]int{3, 2})
	a, b := p.nodes[0], p.nodes[1]
	p.falls(a)
	kept := b.end
	p.starts(a)
	for i, want := range []int{impl.AscNone, impl.AscNone, impl.AscAnew, impl.AscRose} {
		if i < 2 && !sameEnds(b.end, kept) {
			t.Fatalf("%v was turned ahead of the cookie", b.end)
		}
		if happened := p.brings(p.takes(0)); happened != want {
			t.Fatalf("frame %d: %d has happened", i, happened)
		}
	}
	if !p.one() || b.end.Tag == kept.Tag || b.end.PeerTag == kept.PeerTag || b.end.Last != b.end.Tag || len(p.air) != 0 {
		t.Errorf("%v and %v", a.end, b.end)
	}
}

// P41: closed in good order, by one end or by both at once, both are closed behind four frames at most, in whatever order they come.
func TestAscPairClosesInGoodOrder(t *testing.T) {
	for _, who := range [][]int{{0}, {1}, {0, 1}} {
		p := upPair(t, [2]int{3, 2})
		for _, i := range who {
			p.closes(p.nodes[i], false)
		}
		worst := p.worst(0)
		if want := []int{3, 4}[len(who)-1]; worst != want {
			t.Errorf("closed by %v: behind %d frames, want %d", who, worst, want)
		}
	}
}

// worst is how many frames are heard until both are closed, whichever comes next.
func (p *pair) worst(behind int) int {
	p.t.Helper()
	if p.nodes[0].end.State == impl.AscClosed && p.nodes[1].end.State == impl.AscClosed {
		return behind
	}
	if behind == 4 || len(p.air) == 0 {
		p.t.Fatalf("behind %d frames: %v and %v", behind, p.nodes[0].end, p.nodes[1].end)
	}
	most := 0
	for at := range p.air {
		a, b := *p.nodes[0], *p.nodes[1]
		next := &pair{t: p.t, nodes: [2]*node{&a, &b}, now: p.now, air: slices.Clone(p.air)}
		next.brings(next.takes(at))
		most = max(most, next.worst(behind+1))
	}
	return most
}

func TestAscPairTellsWhoIsLeft(t *testing.T) {
	p := upPair(t, [2]int{3, 2})
	p.closes(p.nodes[1], false)
	for i, want := range []struct{ kind, happened int }{{impl.FrmShut, impl.AscGone}, {impl.FrmShutAck, impl.AscNone}, {impl.FrmShutDone, impl.AscNone}} {
		if len(p.air) != 1 || p.air[0].Chunks[0].Kind != want.kind {
			t.Fatalf("frame %d: %v", i, p.air)
		}
		if happened := p.brings(p.takes(0)); happened != want.happened {
			t.Fatalf("frame %d: %d has happened", i, happened)
		}
	}
	if len(p.air) != 0 || p.nodes[0].end.Last != p.nodes[0].used[0] || p.nodes[1].end.Last != p.nodes[1].used[0] {
		t.Errorf("%v and %v", p.nodes[0].end, p.nodes[1].end)
	}
}

// A hard close is over at both ends behind one frame.
func TestAscPairClosesHard(t *testing.T) {
	p := upPair(t, [2]int{3, 2})
	p.closes(p.nodes[0], true)
	if happened := p.brings(p.takes(0)); happened != impl.AscLost || len(p.air) != 0 || p.nodes[1].end.State != impl.AscClosed {
		t.Errorf("%d has happened: %v", happened, p.nodes[1].end)
	}
}

// Whoever is up alone learns that from the answer to a beat.
func TestAscPairOfWhichOneIsUp(t *testing.T) {
	p := upPair(t, [2]int{3, 2})
	p.falls(p.nodes[0])
	p.beats(p.nodes[1])
	p.brings(p.takes(0))
	if happened := p.brings(p.takes(0)); happened != impl.AscLost || p.nodes[1].end.State != impl.AscClosed {
		t.Errorf("%d has happened: %v", happened, p.nodes[1].end)
	}
}

// P57: a cookie that comes twice, and behind a close of each way, begins no second epoch.
func TestAscCookieBeginsOneEpoch(t *testing.T) {
	for _, hard := range []bool{false, true} {
		p := upPair(t, [2]int{3, 2})
		b := p.nodes[1]
		echo := b.rose[0]
		if echo.Chunks[0].Kind != impl.FrmEcho {
			t.Fatalf("it came up by %v", echo)
		}
		kept := b.end
		if happened := p.brings(echo); happened != impl.AscNone || !sameEnds(b.end, kept) || len(p.air) != 1 || p.air[0].Chunks[0].Kind != impl.FrmEchoAck {
			t.Errorf("once more: %d, %v, %v", happened, b.end, p.air)
		}
		p.air = nil
		p.closes(b, hard)
		for len(p.air) > 0 {
			p.brings(p.takes(0))
		}
		if b.end.State != impl.AscClosed {
			t.Fatalf("%v is not closed", b.end)
		}
		kept = b.end
		if happened := p.brings(echo); happened != impl.AscNone || !sameEnds(b.end, kept) || len(p.air) != 0 {
			t.Errorf("behind a close: %d, %v, %v", happened, b.end, p.air)
		}
	}
}

// A first word that comes twice is answered with two cookies; one of them begins an epoch, the other one none.
func TestAscFirstWordTwice(t *testing.T) {
	p := newPair(t, [2]int{3, 2})
	p.starts(p.nodes[0])
	first := p.takes(0)
	p.brings(first)
	p.brings(first)
	one, other := p.takes(0), p.takes(0)
	if one.Chunks[0].Tag == other.Chunks[0].Tag {
		t.Fatalf("%v and %v", one, other)
	}
	p.brings(other)
	for len(p.air) > 0 {
		p.brings(p.takes(0))
	}
	if !p.one() || p.nodes[1].end.Tag != other.Chunks[0].Tag {
		t.Fatalf("%v and %v", p.nodes[0].end, p.nodes[1].end)
	}
	a, b := p.nodes[0].end, p.nodes[1].end
	p.brings(one)
	echo := toEnd(b, one.Chunks[0].Tag, impl.FrmChunk{Kind: impl.FrmEcho, Body: one.Chunks[0].Body})
	p.brings(echo)
	if !sameEnds(a, p.nodes[0].end) || !sameEnds(b, p.nodes[1].end) {
		t.Errorf("%v and %v", p.nodes[0].end, p.nodes[1].end)
	}
}
