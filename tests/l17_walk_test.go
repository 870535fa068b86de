package tests

import (
	"math/rand"
	"slices"
	"testing"

	"loop.example/trunk/impl"
)

// stroll is a world that goes through many events by chance, and what is known of its past.
type stroll struct {
	t       *testing.T
	chance  *rand.Rand
	w       impl.TrunkWorld
	most    int
	classes []int
	fell    map[int]int
	epochs  map[[2]int][2]int
	seen    map[string]int
}

// someWorld is a world at its beginning, of one and two gateways and of none to three servers, with keys of each mode.
func someWorld(chance *rand.Rand) impl.TrunkWorld {
	keys := fourKeys()[:1+chance.Intn(4)]
	for at := range keys {
		keys[at].Mode = 1 + chance.Intn(3)
	}
	var hosts []impl.TrunkWish
	for at := range []int{0, 1, 2, 2, 3, 3, 3}[chance.Intn(7)] {
		wish := impl.TrunkWish{Name: 11 + at}
		for _, row := range keys {
			if chance.Intn(4) > 0 {
				wish.Wish = append(wish.Wish, row.Ctx)
			}
		}
		hosts = append(hosts, wish)
	}
	return openWorld(keys, []int{1, 5}[:1+chance.Intn(2)], hosts)
}

func newStroll(t *testing.T, chance *rand.Rand, w impl.TrunkWorld) *stroll {
	return &stroll{t: t, chance: chance, w: w, most: 24, fell: map[int]int{}, epochs: map[[2]int][2]int{}, seen: map[string]int{}}
}

// event is something that may happen, by chance; most of what is under way is brought.
func (s *stroll) event() impl.TrunkEvent {
	chance, gates, hosts := s.chance, len(s.w.Gates), len(s.w.Hosts)
	at := chance.Intn(gates + hosts)
	air := 0
	if len(s.w.Air) > 0 && chance.Intn(3) == 0 {
		air = chance.Intn(len(s.w.Air))
	}
	switch n := chance.Intn(200); {
	case n < 22 && len(s.w.Given) < s.most:
		return evGive(chance.Intn(gates), s.dest(), chance.Intn(4))
	case n < 120:
		return evBring(air)
	case n < 126:
		return evDouble(air)
	case n < 131:
		return evLose(air)
	case n < 165:
		return evTick(at)
	case n < 172:
		return evClock()
	case n < 174:
		return evFall(at)
	case n < 179:
		return evRise(at)
	case n < 183:
		return evTell(chance.Intn(gates), impl.MsgOff+chance.Intn(3), []int{s.dest(), s.dest(), chance.Intn(5)}[chance.Intn(3)])
	case n < 192:
		return evWant(gates+chance.Intn(hosts+1), []int{1, 2, 4, 7, 9}[chance.Intn(5)], chance.Intn(2) == 0)
	case n < 195:
		return evClose(at, chance.Intn(3), chance.Intn(2) == 0)
	case n < 198:
		return s.forges()
	}
	e := impl.TrunkEvent{Kind: chance.Intn(16) - 1, At: chance.Intn(50) - 5, N: chance.Intn(5), Unit: give(3, 999, 1)}
	if e.Kind == impl.TrunkClocks || e.Kind == impl.TrunkForges {
		e.At = 0
	}
	return e
}

// dest is a destination, mostly of some range.
func (s *stroll) dest() int {
	keys := s.w.Gates[0].Book.Keys
	return append([]int{400}, 5+keys[s.chance.Intn(len(keys))].Low, 6+keys[s.chance.Intn(len(keys))].Low)[min(s.chance.Intn(12), 2)]
}

// forges is bytes that are forged for some end, or are not, as who made them knows too much.
func (s *stroll) forges() impl.TrunkEvent {
	ends := allEnds(s.w)
	if len(ends) == 0 {
		return evClock()
	}
	e := ends[s.chance.Intn(len(ends))]
	all := forgeries(e)
	return evForge(2*e.Line.Peer+s.chance.Intn(2), 2*e.Line.Me+s.chance.Intn(2), all[s.chance.Intn(len(all))].bytes)
}

// steps lets so many events happen.
func (s *stroll) steps(count int) {
	s.t.Helper()
	for range count {
		s.happens(s.event())
	}
}

// happens lets an event happen, and holds all promises of what may ever happen against it.
func (s *stroll) happens(e impl.TrunkEvent) {
	s.t.Helper()
	was := s.w
	s.w = checkStep(s.t, was, e)
	classes := s.ledger()
	for at, class := range s.classes {
		final := class == impl.ClassGot || class > impl.ClassDropped && class <= impl.ClassDropped+impl.SrvOff
		if final && classes[at] != class {
			s.t.Fatalf("%v\n%v:\n%d was %d, and is %d", was, e, at+1, class, classes[at])
		}
	}
	for at, class := range classes {
		if at >= len(s.classes) || class != s.classes[at] {
			s.seen[classNames[class]]++
		}
	}
	s.classes = classes
	if e.Kind == impl.TrunkFalls && e.At >= 0 && e.At < len(was.Gates) {
		s.falls(e.At)
	}
	s.books()
	s.tags(was)
}

// ledger tells where each unit is; P1: each is somewhere, none was got twice, and all in order.
func (s *stroll) ledger() []int {
	s.t.Helper()
	if !impl.TrunkSafe(s.w) || !slowSafe(s.w) {
		s.t.Fatalf("%v\nis not safe", s.w)
	}
	if mark := s.chance.Intn(26); impl.TrunkClass(s.w, mark) != slowClass(s.w, mark) {
		s.t.Fatalf("%v\n%d is %d", s.w, mark, impl.TrunkClass(s.w, mark))
	}
	var classes []int
	for at := range s.w.Given {
		classes = append(classes, slowClass(s.w, at+1))
	}
	return classes
}

var classNames = map[int]string{1: "got", 2: "waits", 3: "queued", 4: "flies", 11: "nokey", 12: "nobody", 13: "expired", 14: "full", 15: "off", 16: "ended", 17: "jammed", 18: "fell"}

// books: no range that is KeyOne has two servers at one gateway, and each is SrvActive just if some server is active for it (P2).
func (s *stroll) books() {
	s.t.Helper()
	for _, g := range s.w.Gates {
		for at, r := range g.Book.Ranges {
			active := activeFor(g.Book, r.Ctx)
			if g.Book.Keys[at].Mode == impl.KeyOne && len(active) > 1 || (r.State == impl.SrvActive) != (len(active) > 0) {
				s.t.Fatalf("%v: %v are active", r, active)
			}
		}
	}
}

// falls: behind the fall of a gateway none of the units that it was given waits or is under way (P7).
func (s *stroll) falls(at int) {
	for i, given := range s.w.Given {
		class := s.classes[i]
		if given.Gate == s.w.Gates[at].Name && (class == impl.ClassWaits || class == impl.ClassQueued || class == impl.ClassFlies) {
			s.t.Fatalf("behind the fall of %d the unit %d is %d", given.Gate, i+1, class)
		}
	}
}

// tags holds P64, and P10 in the world, against what has happened.
func (s *stroll) tags(was impl.TrunkWorld) {
	s.t.Helper()
	type life struct{ tags, falls int }
	lives := map[int]life{}
	for _, g := range was.Gates {
		lives[g.Name] = life{g.Tags, g.Falls}
	}
	for _, h := range was.Hosts {
		lives[h.Name] = life{h.Tags, h.Falls}
	}
	check := func(name int, tags int, falls int, ends []impl.TrunkEnd) {
		if tags < lives[name].tags {
			s.t.Fatalf("%d gave %d tags, and then %d", name, lives[name].tags, tags)
		}
		if falls > lives[name].falls {
			s.fell[name] = lives[name].tags
			s.seen["falls"]++
		}
		var given []int
		for _, e := range ends {
			tag := e.Line.Tag
			if tag == 0 {
				continue
			}
			if tag > tags || tag <= s.fell[name] || slices.Contains(given, tag) {
				s.t.Fatalf("%d has the tag %d of %d, %d ahead of its fall", name, tag, tags, s.fell[name])
			}
			given = append(given, tag)
			s.epoch(name, e.Line)
		}
	}
	for _, g := range s.w.Gates {
		check(g.Name, g.Tags, g.Falls, g.Ends)
	}
	for _, h := range s.w.Hosts {
		check(h.Name, h.Tags, h.Falls, h.Ends)
	}
}

// epoch: under one tag a node is up with one other node alone, under one tag of that one.
func (s *stroll) epoch(name int, line impl.AscEnd) {
	if line.State != impl.AscUp {
		return
	}
	key, with := [2]int{name, line.Tag}, [2]int{line.Peer, line.PeerTag}
	if other, known := s.epochs[key]; known && other != with {
		s.t.Fatalf("%d is up under %d with %v and with %v", name, line.Tag, other, with)
	} else if !known {
		s.epochs[key] = with
		s.seen["epochs"]++
	}
}

// P1, P2, P7, P54, P64: whatever happens.
func TestTrunkWorldWhateverHappens(t *testing.T) {
	seen := map[string]int{}
	for seed := range int64(110) {
		chance := rand.New(rand.NewSource(seed))
		s := newStroll(t, chance, someWorld(chance))
		s.seen = seen
		if chance.Intn(4) > 0 {
			s.w = impl.TrunkCalmly(s.w, 4+chance.Intn(3), -1)
		}
		for range 10 {
			s.steps(20)
			if chance.Intn(4) == 0 {
				s.storm()
			}
		}
	}
	for _, name := range []string{"got", "waits", "queued", "flies", "expired", "full", "off", "ended", "jammed", "fell", "falls", "epochs"} {
		if seen[name] < 8 {
			t.Errorf("%s: %d times", name, seen[name])
		}
	}
}

// storm: much is given at once, and nothing is brought meanwhile.
func (s *stroll) storm() {
	dest := s.dest()
	if s.chance.Intn(2) == 0 {
		for n := range s.w.Hosts {
			s.happens(evClose(0, n, s.chance.Intn(2) == 0))
		}
	}
	for range 4 + s.chance.Intn(8) {
		if len(s.w.Given) < s.most {
			s.happens(evGive(0, dest, s.chance.Intn(3)))
		}
	}
	switch at := s.chance.Intn(len(s.w.Gates) + len(s.w.Hosts)); s.chance.Intn(4) {
	case 0:
		s.happens(evClose(at, s.chance.Intn(3), true))
	case 1:
		for range 30 {
			s.happens(evTick(at))
			s.w.Air = nil
		}
	case 2:
		s.happens(evFall(at))
		s.happens(evRise(at))
	}
}

// P1, P2, P7, P64: also where nodes cannot say what they are to say, as too much waits for the line.
func TestTrunkWorldWithoutRoomForWords(t *testing.T) {
	seen := map[string]int{}
	shut := 0
	for seed := range int64(80) {
		chance := rand.New(rand.NewSource(1700 + seed))
		s := newStroll(t, chance, impl.TrunkCalmly(someWorld(chance), 5, -1))
		s.seen = seen
		for range 6 {
			s.storm()
			up := s.clogs()
			s.steps(6)
			s.happens(evClose(0, chance.Intn(3), true))
			s.happens(evTell(0, impl.MsgJam, chance.Intn(4)))
			shut += max(0, up-s.linesUp()-1)
			s.w = impl.TrunkCalmly(s.w, chance.Intn(6), -1)
		}
	}
	if shut < 30 || seen["ended"] < 30 {
		t.Errorf("%d lines are shut, %v", shut, seen)
	}
}

// clogs lets messages wait at some ends, up to as many as there may be; it tells how many ends are up.
func (s *stroll) clogs() int {
	s.w = roomy(s.w)
	for _, ends := range s.ends() {
		for at := range ends {
			if ends[at].Line.State == impl.AscUp && s.chance.Intn(2) == 0 {
				clog(&ends[at], 10+s.chance.Intn(3))
			}
		}
	}
	return s.linesUp()
}

func (s *stroll) ends() [][]impl.TrunkEnd {
	var out [][]impl.TrunkEnd
	for _, g := range s.w.Gates {
		out = append(out, g.Ends)
	}
	for _, h := range s.w.Hosts {
		out = append(out, h.Ends)
	}
	return out
}

func (s *stroll) linesUp() int {
	up := 0
	for _, e := range allEnds(s.w) {
		if e.Line.State == impl.AscUp {
			up++
		}
	}
	return up
}

// P1: what never was said goes on, in order; what was, never. Told of one gateway and three servers, whose range is KeyShare: units wait at each, and one line after the other is lost.
func TestTrunkWorldWhatWasNeverSaidGoesOn(t *testing.T) {
	for seed := range int64(40) {
		chance := rand.New(rand.NewSource(100 + seed))
		w := oneOf(impl.KeyOne+int(seed)%2, 3)
		for range 18 {
			w = checkStep(t, w, evGive(0, 500, chance.Intn(6)))
		}
		flying := map[int]bool{}
		for mark, class := range checkLedger(t, w) {
			flying[mark+1] = class == impl.ClassFlies
		}
		w.Air = nil
		for _, at := range chance.Perm(3)[:1+chance.Intn(2)] {
			w = checkStep(t, w, evClose(0, at, true))
		}
		w.Air = nil
		v := impl.TrunkCalmly(w, 12, -1)
		checkLedger(t, v)
		if !impl.TrunkServed(v) || !impl.TrunkSafe(v) {
			t.Fatalf("%s", impl.TrunkBoard(v))
		}
		for mark, class := range whereAll(v) {
			was := impl.TrunkClass(w, mark+1)
			switch {
			case was == impl.ClassDropped+impl.SrvEnded && !flying[mark+1]:
				t.Errorf("%d was never said, and is dropped", mark+1)
			case was == impl.ClassDropped+impl.SrvEnded && class != was:
				t.Errorf("%d was said, and lost, and is %d", mark+1, class)
			case was < impl.ClassDropped && class != impl.ClassGot && class != impl.ClassDropped+impl.SrvJammed:
				t.Errorf("%d was %d, and is %d", mark+1, was, class)
			}
		}
	}
}

// P54: though servers leave ranges and wish them again between, units with one choice come to each server in order.
func TestTrunkWorldServersLeaveAndComeBack(t *testing.T) {
	got := 0
	for seed := range int64(60) {
		chance := rand.New(rand.NewSource(540 + seed))
		w := oneOf(impl.KeyOne+int(seed)%3, 1+chance.Intn(3))
		for len(w.Given) < 24 {
			switch n := chance.Intn(10); {
			case n < 4:
				w = checkStep(t, w, evGive(0, 500+chance.Intn(10), chance.Intn(3)))
			case n < 6:
				w = checkStep(t, w, evWant(1+chance.Intn(len(w.Hosts)), 2, chance.Intn(2) == 0))
			case n < 9:
				for range chance.Intn(5) {
					w = checkStep(t, w, evBring(0))
				}
			default:
				w = checkStep(t, w, evTick(chance.Intn(1+len(w.Hosts))))
			}
		}
		for at := range w.Hosts {
			w = checkStep(t, w, evWant(1+at, 2, true))
		}
		w = impl.TrunkCalmly(w, 10, -1)
		type by struct{ host, sls int }
		last := map[by]int{}
		for _, one := range w.Got {
			key := by{one.Host, one.Sls}
			if one.Mark <= last[key] {
				t.Fatalf("%d came to %d behind %d", one.Mark, one.Host, last[key])
			}
			last[key] = one.Mark
			got++
		}
		if !impl.TrunkSafe(w) || !impl.TrunkServed(w) {
			t.Fatalf("%s", impl.TrunkBoard(w))
		}
	}
	if got < 600 {
		t.Errorf("%d were got", got)
	}
}
