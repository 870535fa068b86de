package tests

import (
	"math/rand"
	"slices"
	"testing"

	"loop.example/trunk/impl"
)

// aloft is bytes under way to one of two ends, by a way, since a tick.
type aloft struct {
	to    int
	way   int
	since int
	bytes []byte
}

// side is one direction of an epoch: who hears, and the tags of who says and of who hears.
type side struct{ to, from, at int }

// trunk is two ends of a line that hear each other, and all that was given and told in each epoch.
type trunk struct {
	t     *testing.T
	ends  [2]impl.TrunkEnd
	tags  [2]int
	lives [2]int
	now   int
	air   []aloft
	late  []aloft
	given map[side][]impl.DatUnit
	told  map[side][]impl.DatUnit
	// happened counts what has happened by frames, happens what has by ticks.
	happened [6]int
	happens  [6]int
}

func newTrunk(t *testing.T, wishes [2]int) *trunk {
	k := &trunk{t: t, given: map[side][]impl.DatUnit{}, told: map[side][]impl.DatUnit{}}
	for i := range 2 {
		k.ends[i] = impl.TrunkEndOpen(1+10*i, 11-10*i, 100*(i+1), wishes[i])
	}
	return k
}

// give is a new tag and the first number that goes with it; numbers wrap soon.
func (k *trunk) give(i int) (int, int) {
	k.tags[i]++
	return k.tags[i], onward(4294967290, k.tags[i])
}

// is notes what an end is behind something, and lets go out what goes out.
func (k *trunk) is(i int, w wire) {
	k.ends[i] = w.end
	for _, s := range w.sends {
		a := aloft{to: 1 - i, way: s.Way, since: k.now, bytes: s.Bytes}
		k.air, k.late = append(k.air, a), append(k.late, a)
	}
}

func (k *trunk) starts(i int) {
	if k.ends[i].Line.State == impl.AscClosed {
		tag, tsn := k.give(i)
		k.is(i, checkEndStart(k.t, k.ends[i], tag, tsn))
	}
}

func (k *trunk) ticks(i int) {
	w := checkEndTick(k.t, k.ends[i], k.now)
	k.happens[w.code]++
	k.is(i, w)
}

func (k *trunk) closes(i int, hard bool) {
	was := k.ends[i]
	w := checkEndClose(k.t, was, hard)
	if w.code == 0 {
		k.endsAll(i, was)
	}
	k.is(i, w)
}

// endsAll is P63: of what was given to an end in its epoch DatEnd tells all that was not told, as never said or as under way.
func (k *trunk) endsAll(i int, was impl.TrunkEnd) {
	k.t.Helper()
	s := side{1 - i, was.Line.Tag, was.Line.PeerTag}
	units, marks := impl.DatEnd(was.Out)
	said := len(k.given[s]) - len(units)
	if said < 0 || !sameValue(units, k.given[s][said:]) {
		k.t.Fatalf("%v closes: %v was never said of %v", was, units, k.given[s])
	}
	for _, mark := range marks {
		if !slices.ContainsFunc(k.given[s][:said], func(u impl.DatUnit) bool { return u.Mark == mark }) {
			k.t.Fatalf("%v closes: %v is under way of %v", was, marks, k.given[s])
		}
	}
	if got := len(k.told[s]) + len(units) + len(marks); got < len(k.given[s]) {
		k.t.Fatalf("%v closes: %d units are nowhere", was, len(k.given[s])-got)
	}
}

func (k *trunk) pushes(i int, u impl.DatUnit) int {
	w := checkEndPush(k.t, k.ends[i], u)
	if w.code == 0 {
		s := side{1 - i, w.end.Line.Tag, w.end.Line.PeerTag}
		k.given[s] = append(k.given[s], u)
	}
	k.is(i, w)
	return w.code
}

// brings lets bytes be heard; P49: what is told is, stream by stream, a beginning of what was given in the epoch.
func (k *trunk) brings(a aloft) {
	tag, tsn := k.give(a.to)
	was := k.ends[a.to]
	w := checkEndHear(k.t, was, a.way, a.bytes, k.now, tag, tsn)
	k.happened[w.code]++
	if len(w.units) > 0 {
		s := side{a.to, was.Line.PeerTag, was.Line.Tag}
		k.told[s] = append(k.told[s], w.units...)
		checkBeginning(k.t, k.given[s], k.told[s])
	}
	k.is(a.to, w)
}

// falls: all is forgotten but for which tags it gave, and its secret is another one.
func (k *trunk) falls(i int) {
	k.lives[i]++
	line := k.ends[i].Line
	k.ends[i] = impl.TrunkEndOpen(line.Me, line.Peer, 100*(i+1)+k.lives[i], line.Wish)
}

func (k *trunk) takes(at int) aloft {
	a := k.air[at]
	k.air = slices.Delete(k.air, at, at+1)
	return a
}

// bringsAll brings all that is under way for at least so many ticks, answers included; what goes by the way lost does not come.
func (k *trunk) bringsAll(delay int, lost int) {
	for at := 0; at < len(k.air); {
		if k.air[at].since+delay > k.now {
			at++
			continue
		}
		if a := k.takes(at); a.way != lost {
			k.brings(a)
		}
	}
}

// round lets a tick pass at both ends.
func (k *trunk) round(delay int, lost int) {
	k.now++
	for i := range 2 {
		k.ticks(i)
		k.bringsAll(delay, lost)
	}
}

// one says whether both are up in one epoch.
func (k *trunk) one() bool {
	a, b := k.ends[0].Line, k.ends[1].Line
	return a.State == impl.AscUp && b.State == impl.AscUp && a.Tag == b.PeerTag && b.Tag == a.PeerTag
}

// rises is two ends that have come up in one epoch.
func (k *trunk) rises() *trunk {
	k.t.Helper()
	for range 60 {
		k.starts(0)
		k.round(0, -1)
		if k.one() && len(k.air) == 0 {
			return k
		}
	}
	k.t.Fatalf("%v and %v are not up", k.ends[0], k.ends[1])
	return k
}

// some is a unit of a stream of an end.
func (k *trunk) some(chance *rand.Rand, i int) impl.DatUnit {
	size := []int{1, 8, 15, 16, 17, 31, 32, 33, 47, 48}[chance.Intn(10)]
	return unitOf(1+chance.Intn(1000), chance.Intn(max(k.ends[i].Line.Streams, 1)), size, chance.Intn(4) == 0)
}

// allTold says whether all that was given in the epoch was told.
func (k *trunk) allTold() bool {
	for i, e := range k.ends {
		s := side{1 - i, e.Line.Tag, e.Line.PeerTag}
		if len(k.told[s]) != len(k.given[s]) {
			return false
		}
		if len(e.Out.Flight)+len(e.Out.Queue)+len(e.In.Have)+len(e.In.Seen) > 0 {
			return false
		}
	}
	return true
}

// step is something that happens, by chance.
func (k *trunk) step(chance *rand.Rand) {
	i := chance.Intn(2)
	switch n := chance.Intn(100); {
	case n < 4:
		k.starts(i)
	case n < 20:
		k.now++
		k.ticks(i)
	case n < 38:
		k.pushes(i, k.some(chance, i))
	case n < 39:
		k.closes(i, chance.Intn(2) == 0)
	case n < 40:
		k.falls(i)
		k.starts(i)
	case n == 99 && chance.Intn(2) == 0:
		k.storms(i)
	case n < 42:
		k.brings(aloft{to: i, way: chance.Intn(2), bytes: bytesFor(chance, strange(k.ends[i]), k.now)})
	case len(k.air) == 0:
	case n < 47:
		k.takes(chance.Intn(len(k.air)))
	case n < 52:
		k.brings(k.air[chance.Intn(len(k.air))])
	case n < 55:
		k.brings(k.late[len(k.late)-1-chance.Intn(min(len(k.late), 60))])
	case n < 60:
		k.brings(k.takes(chance.Intn(len(k.air))))
	default:
		k.brings(k.takes(chance.Intn(min(len(k.air), 3))))
	}
}

// storms: an end is alone for some ticks, in which all is lost.
func (k *trunk) storms(i int) {
	for range 12 {
		k.now++
		k.ticks(i)
		k.air = nil
	}
}

// strange is an end as one has it who knows no tag and no secret.
func strange(e impl.TrunkEnd) impl.TrunkEnd {
	e.Line.Tag, e.Line.PeerTag, e.Line.Secret = 4000000000, 4000000001, e.Line.Secret+5000
	return e
}

// P30, P49, P63: whatever happens; and what is given behind it in a calm comes.
func TestTrunkPairWhateverHappens(t *testing.T) {
	var happened, happens [6]int
	told := 0
	for seed := range int64(120) {
		chance := rand.New(rand.NewSource(seed))
		k := newTrunk(t, [2]int{1 + chance.Intn(4), 1 + chance.Intn(4)})
		k.rises()
		for range 200 {
			k.step(chance)
		}
		for i := range 6 {
			happened[i] += k.happened[i]
			happens[i] += k.happens[i]
		}
		for _, units := range k.told {
			told += len(units)
		}
		if seed%2 == 0 {
			k.air = nil
		}
		k.comes(chance)
	}
	for i := range 6 {
		if happened[i] < 15 {
			t.Errorf("%d has happened %d times", i, happened[i])
		}
	}
	if happens[impl.AscLost] < 5 || told < 1000 {
		t.Errorf("%d lines were lost, %d units were told", happens[impl.AscLost], told)
	}
}

// comes brings both ends into one epoch, and all that is given then comes in it.
func (k *trunk) comes(chance *rand.Rand) {
	k.t.Helper()
	// Beats that were lost ahead of the calm may still end an epoch in it.
	for range 20 {
		k.starts(0)
		k.round(0, -1)
	}
	k.rises()
	tags := [2]int{k.ends[0].Line.Tag, k.ends[1].Line.Tag}
	for i := range 2 {
		for range 3 {
			k.pushes(i, k.some(chance, i))
		}
	}
	for range 60 {
		k.round(0, -1)
	}
	if !k.one() || tags != [2]int{k.ends[0].Line.Tag, k.ends[1].Line.Tag} || !k.allTold() {
		k.t.Fatalf("not all has come: %v and %v", k.ends[0], k.ends[1])
	}
}

// P49: units of all sizes and streams, loose ones too, both ways at once, over a line that loses, doubles and turns around, but stays up.
func TestTrunkPairBothWaysAtOnce(t *testing.T) {
	kept := 0
	for seed := range int64(60) {
		chance := rand.New(rand.NewSource(490 + seed))
		k := newTrunk(t, [2]int{3, 3}).rises()
		tag := k.ends[0].Line.Tag
		for range 250 {
			switch n := chance.Intn(20); {
			case n < 5:
				i := chance.Intn(2)
				k.pushes(i, k.some(chance, i))
			case n < 6:
				k.now++
				k.ticks(0)
				k.ticks(1)
			case len(k.air) == 0:
			case n < 8:
				k.takes(chance.Intn(len(k.air)))
			case n < 10:
				k.brings(k.air[chance.Intn(len(k.air))])
			default:
				k.brings(k.takes(chance.Intn(len(k.air))))
			}
		}
		if k.one() && k.ends[0].Line.Tag == tag {
			kept++
		}
		k.comes(chance)
	}
	if kept < 30 {
		t.Errorf("%d lines of 60 stayed up", kept)
	}
}

// P50: whatever one way loses comes by the other one, in the same epoch.
func TestTrunkPairWithOneWayLost(t *testing.T) {
	for seed := range int64(60) {
		for lost := range 2 {
			for _, spread := range []bool{false, true} {
				chance := rand.New(rand.NewSource(500 + seed))
				k := newTrunk(t, [2]int{3, 3}).rises()
				for range chance.Intn(20) {
					k.round(0, -1)
				}
				tags := [2]int{k.ends[0].Line.Tag, k.ends[1].Line.Tag}
				counts := [2]int{12, []int{0, 1, 12}[chance.Intn(3)]}
				for tick := range 60 {
					for i := range 2 {
						for counts[i] > 0 && (!spread || tick%2 == i) {
							if code := k.pushes(i, k.some(chance, i)); code != 0 {
								t.Fatalf("a unit is refused: %d", code)
							}
							counts[i]--
							if spread {
								break
							}
						}
					}
					k.bringsAll(0, lost)
					k.round(0, lost)
				}
				if !k.one() || tags != [2]int{k.ends[0].Line.Tag, k.ends[1].Line.Tag} || !k.allTold() {
					t.Fatalf("the way %d is lost, seed %d: %v and %v", lost, seed, k.ends[0], k.ends[1])
				}
				if k.ends[0].Ways[lost].On || !k.ends[0].Ways[1-lost].On || k.ends[1].Ways[lost].On {
					t.Fatalf("the way %d is lost: %v", lost, k.ends[0].Ways)
				}
			}
		}
	}
}

// P51: a line over which nothing is to be said stays up by its beats, whenever its ends began to count, and however late beats come back within their time.
func TestTrunkPairStaysUp(t *testing.T) {
	for delay := range 2 {
		for shift := range 4 {
			k := newTrunk(t, [2]int{3, 2}).rises()
			for range shift {
				k.now++
				k.ticks(0)
				k.bringsAll(0, -1)
			}
			tags := [2]int{k.ends[0].Line.Tag, k.ends[1].Line.Tag}
			for range 250 {
				k.round(delay, -1)
				for _, e := range k.ends {
					if !e.Ways[0].On || !e.Ways[1].On || e.Ways[0].Errors+e.Ways[1].Errors > 0 {
						t.Fatalf("delay %d, at the tick %d: %v", delay, k.now, e)
					}
				}
			}
			if !k.one() || tags != [2]int{k.ends[0].Line.Tag, k.ends[1].Line.Tag} {
				t.Fatalf("%v and %v", k.ends[0], k.ends[1])
			}
		}
	}
}

// P31: an end that hears nothing more, with something under way or not, says that again and gives up; so does one that only speaks into the void.
func TestTrunkPairHearsNothingMore(t *testing.T) {
	for count := range 13 {
		for wait := range 9 {
			k := newTrunk(t, [2]int{3, 3}).rises()
			for range wait {
				k.round(0, -1)
			}
			chance := rand.New(rand.NewSource(int64(count)))
			for range count {
				k.pushes(0, k.some(chance, 0))
			}
			first := aloft{}
			if count > 0 {
				first = k.air[0]
			}
			k.air = nil
			again, ticks := false, 0
			for ; k.ends[0].Line.State != impl.AscClosed; ticks++ {
				if ticks == 40 {
					t.Fatalf("%v does not give up", k.ends[0])
				}
				k.now++
				k.ticks(0)
				for _, a := range k.air {
					again = again || count > 0 && firstPiece(t, a.bytes) == firstPiece(t, first.bytes)
				}
			}
			if again != (count > 0) || !sameValue(k.ends[0], slowBare(k.ends[0].Line)) {
				t.Errorf("%d units: behind %d ticks %v, said again: %v", count, ticks, k.ends[0], again)
			}
		}
	}
}

// firstPiece is the number of the first piece of a frame; below 0, if it has none.
func firstPiece(t *testing.T, b []byte) int {
	t.Helper()
	p, _, code := impl.FrmRead(b)
	if code != 0 {
		t.Fatalf("%v cannot be read", b)
	}
	if p.Chunks[0].Kind != impl.FrmData {
		return -1
	}
	return p.Chunks[0].Tsn
}

// P63: closed in good order or hard, by one end or by both, both are bare soon, and nothing of the epoch goes on in the next one.
func TestTrunkPairCloses(t *testing.T) {
	for seed := range int64(40) {
		for _, hard := range []bool{false, true} {
			for _, who := range [][]int{{0}, {1}, {0, 1}} {
				chance := rand.New(rand.NewSource(630 + seed))
				k := newTrunk(t, [2]int{3, 3}).rises()
				for i := range 2 {
					for range chance.Intn(12) {
						k.pushes(i, k.some(chance, i))
					}
				}
				for _, i := range who {
					k.closes(i, hard)
				}
				for range 4 {
					k.round(0, -1)
				}
				for i, e := range k.ends {
					if e.Line.State != impl.AscClosed || !sameValue(e, slowBare(e.Line)) {
						t.Fatalf("closed by %v, the end %d: %v", who, i, e)
					}
				}
				k.comes(chance)
			}
		}
	}
}

// Frames of the epoch ahead of it are heard in no other one.
func TestTrunkPairHearsNothingOfAnotherEpoch(t *testing.T) {
	k := newTrunk(t, [2]int{3, 3}).rises()
	for i := range 2 {
		k.pushes(i, unitOf(1, 1, 48, false))
	}
	old := slices.Clone(k.air)
	k.air = nil
	k.closes(0, true)
	k.bringsAll(0, -1)
	k.rises()
	was := k.ends
	for _, a := range old {
		k.brings(a)
	}
	if !sameValue(was[:], k.ends[:]) || len(k.air) != 2 {
		t.Errorf("%v and %v are %v and %v", was[0], was[1], k.ends[0], k.ends[1])
	}
}
