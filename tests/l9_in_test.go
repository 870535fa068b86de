package tests

import (
	"math"
	"math/rand"
	"slices"
	"strconv"
	"testing"

	"loop.example/trunk/impl"
)

// numbersOfHave are all numbers of which a side may keep a piece, in order.
func numbersOfHave(i impl.DatIn) []int {
	var out []int
	for back := 59; back >= 0; back-- {
		out = append(out, onward(i.Cum, -back))
	}
	return append(out, i.Seen...)
}

func slowInOk(i impl.DatIn) bool {
	if i.Streams < 1 || i.Streams > 8 || len(i.Ssns) != i.Streams || !long.has(i.Cum) || len(i.Seen) > 16 || len(i.Have) > 24 {
		return false
	}
	if slices.ContainsFunc(i.Ssns, func(n int) bool { return !short.has(n) }) {
		return false
	}
	ahead := 1
	for _, tsn := range i.Seen {
		far := onward(tsn, -i.Cum)
		if !long.has(tsn) || far <= ahead || far > 16 {
			return false
		}
		ahead = far
	}
	left := numbersOfHave(i)
	for _, p := range i.Have {
		at := slices.Index(left, p.Tsn)
		if at < 0 || !slowPieceOk(p, i.Streams) {
			return false
		}
		left = left[at+1:]
	}
	return true
}

// slowIn is a receiving side whose pieces and numbers stand in maps.
type slowIn struct {
	impl.DatIn
	seen map[int]bool
	have map[int]impl.DatPiece
}

// order are the numbers of which there is something, from so many ahead of Cum on.
func (s *slowIn) order(has func(tsn int) bool) []int {
	var out []int
	for far := -200; far <= 40; far++ {
		if tsn := onward(s.Cum, far); has(tsn) {
			out = append(out, tsn)
		}
	}
	return out
}

func (s *slowIn) haves() []int {
	return s.order(func(tsn int) bool { return len(s.have[tsn].Body) > 0 })
}

// whole are the numbers of the unit that begins with one, if all of it is there, and it is its turn.
func (s *slowIn) whole(tsn int) []int {
	first := s.have[tsn]
	if !first.First || !first.Loose && first.Ssn != s.Ssns[first.Stream] {
		return nil
	}
	out := []int{tsn}
	for !s.have[tsn].Last {
		tsn = onward(tsn, 1)
		p, is := s.have[tsn]
		if !is || p.First || p.Stream != first.Stream || p.Ssn != first.Ssn || p.Loose != first.Loose {
			return nil
		}
		out = append(out, tsn)
	}
	return out
}

// tell is the next unit, if there is one.
func (s *slowIn) tell() (impl.DatUnit, bool) {
	for _, tsn := range s.haves() {
		all := s.whole(tsn)
		if all == nil {
			continue
		}
		first := s.have[tsn]
		u := impl.DatUnit{Stream: first.Stream, Loose: first.Loose}
		for _, n := range all {
			u.Body = append(u.Body, s.have[n].Body...)
			delete(s.have, n)
		}
		if !u.Loose {
			s.Ssns[u.Stream] = (s.Ssns[u.Stream] + 1) % 65536
		}
		return u, true
	}
	return impl.DatUnit{}, false
}

func slowTake(given impl.DatIn, p impl.DatPiece) (impl.DatIn, []impl.DatUnit, int) {
	if !slowInOk(given) {
		return impl.DatIn{}, nil, 1
	}
	if !slowPieceOk(p, given.Streams) {
		return given, nil, 2
	}
	far := onward(p.Tsn, -given.Cum)
	if far == 0 || slices.Contains(given.Seen, p.Tsn) || far >= 2147483648 {
		return given, nil, 3
	}
	if far > 16 || len(given.Have) == 24 {
		return given, nil, 4
	}
	s := &slowIn{DatIn: roomy(given), seen: map[int]bool{p.Tsn: true}, have: map[int]impl.DatPiece{p.Tsn: p}}
	for _, tsn := range given.Seen {
		s.seen[tsn] = true
	}
	for _, q := range given.Have {
		s.have[q.Tsn] = q
	}
	for s.seen[onward(s.Cum, 1)] {
		s.Cum = onward(s.Cum, 1)
		delete(s.seen, s.Cum)
	}
	for back := 60; back < 100; back++ {
		delete(s.have, onward(s.Cum, -back))
	}
	var told []impl.DatUnit
	for u, is := s.tell(); is; u, is = s.tell() {
		told = append(told, u)
	}
	s.Seen, s.Have = s.order(func(tsn int) bool { return s.seen[tsn] }), nil
	for _, tsn := range s.haves() {
		s.Have = append(s.Have, s.have[tsn])
	}
	return s.DatIn, told, 0
}

func slowAck(i impl.DatIn) (int, []impl.FrmGap) {
	if !slowInOk(i) {
		return 0, nil
	}
	var gaps []impl.FrmGap
	for _, tsn := range i.Seen {
		far := onward(tsn, -i.Cum)
		if n := len(gaps); n > 0 && gaps[n-1].To+1 == far {
			gaps[n-1].To = far
		} else {
			gaps = append(gaps, impl.FrmGap{From: far, To: far})
		}
	}
	if len(gaps) > 4 {
		gaps = gaps[:4]
	}
	return i.Cum, gaps
}

// cums are numbers up to which all has come, those at which numbers wrap inside Seen and Have among them.
var cums = []int{0, 1, 5, 58, 59, 60, 100, 2147483647, 2147483648, 4294967279, 4294967280, 4294967290, 4294967294, 4294967295}

// somePiece is a piece that is ok in the streams of a side, often one of a unit whose turn it is.
func somePiece(chance *rand.Rand, i impl.DatIn, tsn int) impl.DatPiece {
	p := impl.DatPiece{Tsn: tsn, Stream: chance.Intn(i.Streams), First: chance.Intn(2) == 0, Last: chance.Intn(2) == 0, Loose: chance.Intn(4) == 0, Body: counted([]int{1, 2, 16}[chance.Intn(3)])}
	if !p.Loose {
		p.Ssn = (i.Ssns[p.Stream] + []int{0, 0, 0, 1, 65535}[chance.Intn(5)]) % 65536
	}
	return p
}

// someIn is a side that is ok, each of its numbers often at a bound.
func someIn(chance *rand.Rand) impl.DatIn {
	i := impl.DatIn{Streams: []int{1, 1, 2, 3, 8}[chance.Intn(5)], Cum: cums[chance.Intn(len(cums))]}
	for range i.Streams {
		i.Ssns = append(i.Ssns, []int{0, 1, 65534, 65535}[chance.Intn(4)])
	}
	often := 1 + chance.Intn(4)
	for far := 2; far <= 16; far++ {
		if chance.Intn(5) < often {
			i.Seen = append(i.Seen, onward(i.Cum, far))
		}
	}
	often = chance.Intn(20)
	for _, tsn := range numbersOfHave(i) {
		near := onward(tsn, 4-i.Cum) < 24
		if len(i.Have) < 24 && (chance.Intn(40) < often || near && chance.Intn(2) == 0) {
			i.Have = append(i.Have, somePiece(chance, i, tsn))
		}
	}
	return i
}

func someIns(seed int64, count int) []impl.DatIn {
	chance := rand.New(rand.NewSource(seed))
	var out []impl.DatIn
	for range count {
		out = append(out, someIn(chance))
	}
	return out
}

// pieceIn is a piece of one byte, the middle of a unit.
func pieceIn(tsn int, stream int, ssn int) impl.DatPiece {
	return impl.DatPiece{Tsn: tsn, Stream: stream, Ssn: ssn, Body: []byte{byte(tsn), byte(stream)}}
}

// goodIn has something of all; numbers wrap inside it.
func goodIn() impl.DatIn {
	return impl.DatIn{
		Streams: 2, Cum: 4294967294, Seen: []int{0, 1, 14}, Ssns: []int{4, 65535},
		Have: []impl.DatPiece{pieceIn(4294967235, 0, 3), pieceIn(4294967294, 1, 65535), pieceIn(0, 1, 0), pieceIn(14, 0, 5)},
	}
}

// badIns are not ok, each in one of the ways that the document tells.
func badIns() map[string]impl.DatIn {
	out := map[string]impl.DatIn{"nothing": {}}
	spoil := func(name string, turn func(i *impl.DatIn)) {
		i := roomy(goodIn())
		turn(&i)
		out[name] = i
	}
	for _, n := range []int{0, -1, 9, 1, 3, math.MinInt, math.MaxInt} {
		spoil("Streams "+strconv.Itoa(n), func(i *impl.DatIn) { i.Streams = n })
	}
	spoil("no streams", func(i *impl.DatIn) { i.Streams, i.Ssns, i.Have = 0, nil, nil })
	spoil("nine streams", func(i *impl.DatIn) { i.Streams, i.Ssns = 9, make([]int, 9) })
	spoil("no Ssns", func(i *impl.DatIn) { i.Ssns = nil })
	spoil("fewer Ssns", func(i *impl.DatIn) { i.Ssns = i.Ssns[:1] })
	spoil("more Ssns", func(i *impl.DatIn) { i.Ssns = append(i.Ssns, 0) })
	for _, n := range []int{-1, 65536, math.MinInt, math.MaxInt} {
		spoil("first Ssn "+strconv.Itoa(n), func(i *impl.DatIn) { i.Ssns[0] = n })
		spoil("last Ssn "+strconv.Itoa(n), func(i *impl.DatIn) { i.Ssns[1] = n })
		spoil("Ssn of a piece "+strconv.Itoa(n), func(i *impl.DatIn) { i.Have[1].Ssn = n })
	}
	for _, n := range []int{-1, 4294967296, math.MinInt, math.MaxInt} {
		spoil("Cum "+strconv.Itoa(n), func(i *impl.DatIn) { i.Cum, i.Seen, i.Have = n, nil, nil })
		spoil("Seen "+strconv.Itoa(n), func(i *impl.DatIn) { i.Seen = []int{n} })
		spoil("Tsn "+strconv.Itoa(n), func(i *impl.DatIn) { i.Have[1].Tsn = n })
	}
	spoil("Seen beyond the end of numbers", func(i *impl.DatIn) { i.Seen[0] = 4294967296 })
	spoil("Have beyond the end of numbers", func(i *impl.DatIn) { i.Have[2].Tsn = 4294967296 })
	spoil("Cum is seen", func(i *impl.DatIn) { i.Seen = append([]int{4294967294}, i.Seen...) })
	spoil("the next one is seen", func(i *impl.DatIn) { i.Seen = append([]int{4294967295}, i.Seen...) })
	spoil("seen too far", func(i *impl.DatIn) { i.Seen = append(i.Seen, 15) })
	spoil("seen much too far", func(i *impl.DatIn) { i.Seen = append(i.Seen, 2147483646) })
	spoil("seen ahead", func(i *impl.DatIn) { i.Seen, i.Have = []int{4294967293}, nil })
	spoil("seen twice", func(i *impl.DatIn) { i.Seen = []int{0, 0, 1, 14} })
	spoil("seen out of order", func(i *impl.DatIn) { i.Seen = []int{1, 0, 14} })
	spoil("seen seventeen times", func(i *impl.DatIn) { i.Seen, i.Have = slices.Repeat([]int{0}, 17), nil })
	spoil("too old", func(i *impl.DatIn) { i.Have[0].Tsn = 4294967234 })
	spoil("much too old", func(i *impl.DatIn) { i.Have[0].Tsn = 2147483647 })
	spoil("kept and not seen", func(i *impl.DatIn) { i.Have[3].Tsn = 2 })
	spoil("the next one kept", func(i *impl.DatIn) { i.Have[2].Tsn = 4294967295 })
	spoil("kept beyond what is seen", func(i *impl.DatIn) { i.Have[3].Tsn = 15 })
	spoil("kept far beyond what is seen", func(i *impl.DatIn) { i.Have[3].Tsn = 33 })
	spoil("kept and nothing seen", func(i *impl.DatIn) { i.Seen = nil })
	spoil("one number kept twice", func(i *impl.DatIn) { i.Have[1] = i.Have[0] })
	spoil("kept out of order", func(i *impl.DatIn) { i.Have[0], i.Have[1] = i.Have[1], i.Have[0] })
	spoil("kept out of order behind Cum", func(i *impl.DatIn) { i.Have[2], i.Have[3] = i.Have[3], i.Have[2] })
	spoil("kept in order of what is not round", func(i *impl.DatIn) { i.Have = append(i.Have[2:], i.Have[:2]...) })
	spoil("twenty-five kept", func(i *impl.DatIn) {
		i.Seen, i.Have = nil, nil
		for at := range 25 {
			i.Have = append(i.Have, pieceIn(onward(i.Cum, at-24), 0, 3))
		}
	})
	for _, n := range []int{-1, 2, 7, math.MinInt, math.MaxInt} {
		spoil("stream of a piece "+strconv.Itoa(n), func(i *impl.DatIn) { i.Have[3].Stream = n })
	}
	spoil("a loose piece with an Ssn", func(i *impl.DatIn) { i.Have[3].Loose = true })
	spoil("a piece without bytes", func(i *impl.DatIn) { i.Have[2].Body = nil })
	spoil("a piece of 17 bytes", func(i *impl.DatIn) { i.Have[2].Body = counted(17) })
	return out
}

func TestDatInOkOfGoodSides(t *testing.T) {
	good := []impl.DatIn{goodIn(), {Streams: 1, Ssns: []int{0}}, {Streams: 8, Cum: 4294967295, Ssns: slices.Repeat([]int{65535}, 8)}}
	for _, cum := range cums {
		i := impl.DatIn{Streams: 1, Cum: cum, Ssns: []int{0}}
		for far := 2; far <= 16; far++ {
			i.Seen = append(i.Seen, onward(cum, far))
		}
		for at := range 24 {
			tsn := onward(cum, at-12)
			if at > 12 {
				tsn = onward(cum, at-11)
			}
			i.Have = append(i.Have, pieceIn(tsn, 0, 65535))
		}
		i.Have[0].Tsn, i.Have[0].Body = onward(cum, -59), counted(16)
		i.Have[23].Tsn, i.Have[23].Loose, i.Have[23].Ssn = onward(cum, 16), true, 0
		good = append(good, i)
	}
	for _, i := range append(good, someIns(11, 1000)...) {
		if !slowInOk(i) || !impl.DatInOk(i) {
			t.Fatalf("%v is not ok", i)
		}
	}
}

// What is not ok beside what is.
func TestDatInOkOfEachNumber(t *testing.T) {
	for _, cum := range cums {
		for far := -64; far <= 40; far++ {
			tsn := onward(cum, far)
			for _, seen := range [][]int{nil, {tsn}, {onward(cum, 3)}, {onward(cum, 3), tsn}, {tsn, onward(cum, 16)}} {
				for _, have := range [][]impl.DatPiece{nil, {pieceIn(tsn, 0, 1)}, {pieceIn(onward(cum, -59), 0, 1), pieceIn(tsn, 0, 1)}, {pieceIn(tsn, 0, 1), pieceIn(cum, 0, 1)}, {pieceIn(cum, 0, 1), pieceIn(tsn, 0, 1)}} {
					i := impl.DatIn{Streams: 1, Cum: cum, Seen: seen, Have: have, Ssns: []int{0}}
					if impl.DatInOk(i) != slowInOk(i) {
						t.Fatalf("%v is ok: %v", i, impl.DatInOk(i))
					}
				}
			}
		}
	}
}

func TestDatRefusesInsThatAreNotOk(t *testing.T) {
	for name, i := range badIns() {
		if slowInOk(i) || impl.DatInOk(i) {
			t.Errorf("%s: it is ok", name)
		}
		// What else is wrong is asked only behind that.
		for _, p := range []impl.DatPiece{pieceIn(onward(i.Cum, 1), 0, 4), pieceIn(i.Cum, 0, 4), {}} {
			if got, told, code := impl.DatTake(i, p); code != 1 || len(told) != 0 || !sameValue(got, impl.DatIn{}) {
				t.Errorf("%s: %v, %v, %d", name, got, told, code)
			}
		}
		if cum, gaps := impl.DatAck(i); cum != 0 || len(gaps) != 0 {
			t.Errorf("%s: %d, %v", name, cum, gaps)
		}
	}
}

func TestDatInOpen(t *testing.T) {
	for _, tsn := range append([]int{5}, wide...) {
		for _, streams := range []int{math.MinInt, -1, 0, 1, 2, 7, 8, 9, math.MaxInt} {
			got := impl.DatInOpen(tsn, streams)
			want := impl.DatIn{}
			if long.has(tsn) && streams >= 1 && streams <= 8 {
				want = impl.DatIn{Streams: streams, Cum: onward(tsn, -1), Ssns: []int{0, 0, 0, 0, 0, 0, 0, 0}[:streams]}
			}
			if !sameValue(got, want) || impl.DatInOk(got) != (want.Streams > 0) {
				t.Errorf("%d, %d: %v, want %v", tsn, streams, got, want)
			}
		}
	}
	if got := impl.DatInOpen(0, 1); got.Cum != 4294967295 {
		t.Errorf("%v", got)
	}
}

// Told by hand: what a piece that is so far is answered with.
func TestDatTakeCodes(t *testing.T) {
	for _, cum := range cums {
		i := impl.DatIn{Streams: 2, Cum: cum, Seen: []int{onward(cum, 3), onward(cum, 16)}, Ssns: []int{0, 9}, Have: []impl.DatPiece{pieceIn(onward(cum, 3), 1, 9)}}
		crowded := roomy(i)
		crowded.Have = nil
		for at := range 24 {
			crowded.Have = append(crowded.Have, pieceIn(onward(cum, at-23), 0, 7))
		}
		almost := roomy(crowded)
		almost.Have = almost.Have[1:]
		list := []struct{ far, code, crowded int }{
			{0, 3, 3}, {-1, 3, 3}, {-60, 3, 3}, {3, 3, 3}, {16, 3, 3}, {2147483648, 3, 3}, {2147483649, 3, 3}, {4294967295, 3, 3},
			{1, 0, 4}, {2, 0, 4}, {4, 0, 4}, {15, 0, 4}, {17, 4, 4}, {18, 4, 4}, {35, 4, 4}, {2147483646, 4, 4}, {2147483647, 4, 4},
		}
		for _, l := range list {
			p := pieceIn(onward(cum, l.far), 1, 9)
			for _, side := range []impl.DatIn{i, crowded, almost} {
				want := l.code
				if len(side.Have) == 24 {
					want = l.crowded
				}
				got, told, code := impl.DatTake(side, p)
				if code != want || len(told) != 0 || code != 0 && !sameValue(got, side) || code == 0 && len(got.Have) != len(side.Have)+1 {
					t.Fatalf("%v, %d far: %v, %v, %d", side, l.far, got, told, code)
				}
			}
			// A piece that is not ok is asked ahead of its number.
			bad := []impl.DatPiece{p, p, p, p, p, p, p}
			bad[0].Stream, bad[1].Stream, bad[2].Ssn, bad[3].Ssn, bad[4].Loose, bad[5].Body, bad[6].Body = 2, -1, 65536, -1, true, nil, counted(17)
			for _, p := range bad {
				for _, side := range []impl.DatIn{i, crowded} {
					if got, told, code := impl.DatTake(side, p); code != 2 || len(told) != 0 || !sameValue(got, side) {
						t.Fatalf("%v: %v, %v, %d", p, got, told, code)
					}
				}
			}
		}
	}
}

func TestDatTakeOfNumbersThatAreNone(t *testing.T) {
	i := impl.DatInOpen(0, 1)
	for _, tsn := range []int{-1, 4294967296, -4294967296, math.MinInt, math.MaxInt} {
		p := impl.DatPiece{Tsn: tsn, First: true, Last: true, Body: []byte{1}}
		if got, told, code := impl.DatTake(i, p); code != 2 || len(told) != 0 || !sameValue(got, i) {
			t.Errorf("%d: %v, %v, %d", tsn, got, told, code)
		}
	}
}

// take takes pieces in, one behind the other; all units that were told, and the codes.
func take(i impl.DatIn, pieces ...impl.DatPiece) (impl.DatIn, []impl.DatUnit, []int) {
	var told []impl.DatUnit
	var codes []int
	for _, p := range pieces {
		next, units, code := impl.DatTake(i, p)
		i, told, codes = next, append(told, units...), append(codes, code)
	}
	return i, told, codes
}

// orders are all orders of so many places.
func orders(count int) [][]int {
	if count == 0 {
		return [][]int{nil}
	}
	var out [][]int
	for _, o := range orders(count - 1) {
		for at := 0; at <= len(o); at++ {
			out = append(out, slices.Insert(slices.Clone(o), at, count-1))
		}
	}
	return out
}

func TestDatTakeOfOneUnitInEachOrder(t *testing.T) {
	for _, next := range nexts {
		for _, loose := range []bool{false, true} {
			for _, ssn := range []int{0, 65535} {
				o := impl.DatOut{Streams: 2, Next: next, Ssns: []int{5, ssn}, Queue: []impl.DatUnit{unitOf(9, 1, 48, loose)}}
				_, pieces := impl.DatSend(o)
				want := unitOf(9, 1, 48, loose)
				want.Mark = 0
				end := impl.DatIn{Streams: 2, Cum: onward(next, 2), Ssns: []int{5, ssn}}
				if !loose {
					end.Ssns[1] = (ssn + 1) % 65536
				}
				for _, order := range orders(3) {
					i := impl.DatIn{Streams: 2, Cum: onward(next, -1), Ssns: []int{5, ssn}}
					var told []impl.DatUnit
					for n, at := range order {
						var units []impl.DatUnit
						i, units, _ = impl.DatTake(i, pieces[at])
						told = append(told, units...)
						if n < 2 && (len(told) > 0 || len(i.Have) != n+1) {
							t.Fatalf("%v: %v, %v behind %d", order, told, i, n+1)
						}
					}
					if len(told) != 1 || !sameValue(told[0], want) || !sameValue(i, end) {
						t.Fatalf("%v: %v, %v", order, told, i)
					}
				}
			}
		}
	}
}

// word is a piece that is told by letters: f First, l Last, o Loose; its body is one byte.
func word(tsn int, stream int, ssn int, flags string, body byte) impl.DatPiece {
	p := impl.DatPiece{Tsn: tsn, Stream: stream, Ssn: ssn, Body: []byte{body}}
	for _, f := range flags {
		switch f {
		case 'f':
			p.First = true
		case 'l':
			p.Last = true
		case 'o':
			p.Loose = true
		}
	}
	return p
}

// Told by hand: pieces, as they come, behind the number 4294967294, in two streams whose next units are 3 and 65535; the bodies that are told, and the numbers of what is kept.
func TestDatTakeOfKnownPieces(t *testing.T) {
	const a, b, c, d, e = 4294967295, 0, 1, 2, 3
	list := []struct {
		name   string
		pieces []impl.DatPiece
		told   []string
		kept   []int
		ssns   []int
		cum    int
		seen   []int
	}{
		{"one", []impl.DatPiece{word(a, 0, 3, "fl", 'x')}, []string{"x"}, nil, []int{4, 65535}, a, nil},
		{"the end of Ssns", []impl.DatPiece{word(a, 1, 65535, "fl", 'x'), word(b, 1, 0, "fl", 'y')}, []string{"x", "y"}, nil, []int{3, 1}, b, nil},
		{"not its turn", []impl.DatPiece{word(a, 0, 4, "fl", 'x')}, nil, []int{a}, []int{3, 65535}, a, nil},
		{"its turn was", []impl.DatPiece{word(a, 0, 2, "fl", 'x')}, nil, []int{a}, []int{3, 65535}, a, nil},
		{"its turn comes", []impl.DatPiece{word(b, 0, 4, "fl", 'y'), word(a, 0, 3, "fl", 'x')}, []string{"x", "y"}, nil, []int{5, 65535}, b, nil},
		{"numbers the other way round", []impl.DatPiece{word(a, 0, 4, "fl", 'y'), word(b, 0, 3, "fl", 'x')}, []string{"x", "y"}, nil, []int{5, 65535}, b, nil},
		{"behind a hole", []impl.DatPiece{word(b, 0, 3, "fl", 'x')}, []string{"x"}, nil, []int{4, 65535}, 4294967294, []int{b}},
		{"three behind a hole", []impl.DatPiece{word(b, 0, 3, "f", 'x'), word(d, 0, 3, "l", 'z'), word(c, 0, 3, "", 'y')}, []string{"xyz"}, nil, []int{4, 65535}, 4294967294, []int{b, c, d}},
		{"a hole in a unit", []impl.DatPiece{word(a, 0, 3, "f", 'x'), word(c, 0, 3, "l", 'z')}, nil, []int{a, c}, []int{3, 65535}, a, []int{c}},
		{"no first", []impl.DatPiece{word(a, 0, 3, "", 'x'), word(b, 0, 3, "l", 'y')}, nil, []int{a, b}, []int{3, 65535}, b, nil},
		{"no last", []impl.DatPiece{word(a, 0, 3, "f", 'x'), word(b, 0, 3, "", 'y')}, nil, []int{a, b}, []int{3, 65535}, b, nil},
		{"up to the first last one", []impl.DatPiece{word(a, 0, 3, "f", 'x'), word(c, 0, 3, "l", 'z'), word(b, 0, 3, "l", 'y')}, []string{"xy"}, []int{c}, []int{4, 65535}, c, nil},
		{"two first ones", []impl.DatPiece{word(a, 0, 3, "f", 'x'), word(b, 0, 3, "f", 'y'), word(c, 0, 3, "l", 'z')}, []string{"yz"}, []int{a}, []int{4, 65535}, c, nil},
		{"two first ones, both last", []impl.DatPiece{word(b, 0, 4, "fl", 'y'), word(c, 0, 3, "fl", 'z'), word(a, 0, 3, "f", 'x')}, []string{"z", "y"}, []int{a}, []int{5, 65535}, c, nil},
		{"the same unit twice", []impl.DatPiece{word(a, 0, 3, "fl", 'x'), word(b, 0, 3, "fl", 'x')}, []string{"x"}, []int{b}, []int{4, 65535}, b, nil},
		{"another stream between", []impl.DatPiece{word(a, 0, 3, "f", 'x'), word(b, 1, 65535, "fl", 'y'), word(c, 0, 3, "l", 'z')}, []string{"y"}, []int{a, c}, []int{3, 0}, c, nil},
		{"another stream at the end", []impl.DatPiece{word(a, 0, 3, "f", 'x'), word(b, 1, 3, "l", 'y')}, nil, []int{a, b}, []int{3, 65535}, b, nil},
		{"another Ssn at the end", []impl.DatPiece{word(a, 0, 3, "f", 'x'), word(b, 0, 4, "l", 'y')}, nil, []int{a, b}, []int{3, 65535}, b, nil},
		{"loose at the end", []impl.DatPiece{word(a, 0, 0, "f", 'x'), word(b, 0, 0, "lo", 'y')}, nil, []int{a, b}, []int{3, 65535}, b, nil},
		{"loose at the beginning", []impl.DatPiece{word(a, 0, 0, "fo", 'x'), word(b, 0, 0, "l", 'y')}, nil, []int{a, b}, []int{3, 65535}, b, nil},
		{"loose", []impl.DatPiece{word(a, 0, 0, "fo", 'x'), word(b, 0, 0, "lo", 'y')}, []string{"xy"}, nil, []int{3, 65535}, b, nil},
		{"loose ones between", []impl.DatPiece{word(b, 0, 0, "flo", 'y'), word(d, 0, 0, "flo", 'w'), word(c, 0, 4, "fl", 'z'), word(a, 0, 3, "fl", 'x')}, []string{"y", "w", "x", "z"}, nil, []int{5, 65535}, d, nil},
		{"a loose one between the pieces of a unit", []impl.DatPiece{word(a, 0, 3, "f", 'x'), word(b, 0, 0, "flo", 'y'), word(c, 0, 3, "l", 'z')}, []string{"y"}, []int{a, c}, []int{3, 65535}, c, nil},
		{"a hole in one stream", []impl.DatPiece{word(b, 0, 4, "fl", 'q'), word(c, 1, 65535, "f", 'x'), word(d, 1, 65535, "l", 'y'), word(e, 1, 0, "fl", 'z')}, []string{"xy", "z"}, []int{b}, []int{3, 1}, 4294967294, []int{b, c, d, e}},
		{"two streams at once", []impl.DatPiece{word(b, 1, 0, "fl", 'p'), word(c, 0, 4, "fl", 'q'), word(e, 0, 3, "fl", 'r'), word(d, 1, 65535, "f", 's'), word(a, 1, 65535, "fl", 't')}, []string{"r", "q", "t", "p"}, []int{d}, []int{5, 1}, e, nil},
	}
	for _, l := range list {
		i := impl.DatIn{Streams: 2, Cum: 4294967294, Ssns: []int{3, 65535}}
		got, units, codes := take(i, l.pieces...)
		var told []string
		for _, u := range units {
			told = append(told, string(u.Body))
			if u.Mark != 0 {
				t.Errorf("%s: %v", l.name, u)
			}
		}
		var kept []int
		for _, p := range got.Have {
			kept = append(kept, p.Tsn)
		}
		if slices.Max(codes) != 0 || !slices.Equal(told, l.told) || !slices.Equal(kept, l.kept) || !slices.Equal(got.Ssns, l.ssns) || got.Cum != l.cum || !slices.Equal(got.Seen, l.seen) || !impl.DatInOk(got) {
			t.Errorf("%s: %v, %v, %v", l.name, told, got, codes)
		}
	}
}

// What was told as a unit is not kept, but was seen.
func TestDatTakeOfAPieceThatCameBefore(t *testing.T) {
	for _, cum := range cums {
		i := impl.DatIn{Streams: 1, Cum: cum, Ssns: []int{0}}
		pieces := []impl.DatPiece{word(onward(cum, 2), 0, 0, "fl", 'x'), word(onward(cum, 4), 0, 9, "f", 'y'), word(onward(cum, 1), 0, 1, "fl", 'z')}
		i, told, _ := take(i, pieces...)
		if len(told) != 2 {
			t.Fatalf("%v", told)
		}
		for _, p := range append(pieces, word(cum, 0, 2, "fl", 'q'), word(onward(cum, -3), 0, 2, "fl", 'q')) {
			if got, told, code := impl.DatTake(i, p); code != 3 || len(told) > 0 || !sameValue(got, i) {
				t.Errorf("%v: %v, %v, %d", p, got, told, code)
			}
		}
	}
}

// A piece that is kept goes when it is DatMaxBack ahead of Cum.
func TestDatTakeLetsOldPiecesGo(t *testing.T) {
	for _, cum := range cums {
		i := impl.DatIn{Streams: 1, Cum: cum, Ssns: []int{0}}
		for _, back := range []int{59, 58, 57, 1, 0} {
			i.Have = append(i.Have, pieceIn(onward(cum, -back), 0, 9))
		}
		i.Seen = []int{onward(cum, 2), onward(cum, 4)}
		kept := func(i impl.DatIn) []int {
			var out []int
			for _, p := range i.Have {
				out = append(out, onward(p.Tsn, -cum+60))
			}
			return out
		}
		// One that is not the next one leaves Cum as it is.
		later, _, _ := impl.DatTake(i, pieceIn(onward(cum, 5), 0, 9))
		if !slices.Equal(kept(later), []int{1, 2, 3, 59, 60, 65}) {
			t.Errorf("%d: %v", cum, later)
		}
		// With the next one Cum goes on by two.
		next, _, _ := impl.DatTake(i, pieceIn(onward(cum, 1), 0, 9))
		if next.Cum != onward(cum, 2) || !slices.Equal(kept(next), []int{3, 59, 60, 61}) {
			t.Errorf("%d: %v", cum, next)
		}
		next, _, _ = impl.DatTake(next, pieceIn(onward(cum, 3), 0, 9))
		if next.Cum != onward(cum, 4) || !slices.Equal(kept(next), []int{59, 60, 61, 63}) {
			t.Errorf("%d: %v", cum, next)
		}
		// What goes is not told, though it would be whole with what comes.
		old := impl.DatIn{Streams: 1, Cum: cum, Ssns: []int{0}, Have: []impl.DatPiece{word(onward(cum, -59), 0, 0, "fl", 'x')}}
		if got, told, code := impl.DatTake(old, pieceIn(onward(cum, 1), 0, 9)); code != 0 || len(told) != 0 || len(got.Have) != 1 {
			t.Errorf("%d: %v, %v, %d", cum, got, told, code)
		}
		old.Have[0].Tsn = onward(cum, -58)
		if got, told, code := impl.DatTake(old, pieceIn(onward(cum, 1), 0, 9)); code != 0 || len(told) != 1 || len(got.Have) != 1 {
			t.Errorf("%d: %v, %v, %d", cum, got, told, code)
		}
	}
}

func TestDatTakeOfManySides(t *testing.T) {
	chance := rand.New(rand.NewSource(12))
	codes := map[int]int{}
	units := map[int]int{}
	for _, i := range someIns(13, 6000) {
		for range 3 {
			far := []int{1, 1, 1, 2, 1 + chance.Intn(17), chance.Intn(20), -chance.Intn(70), 2147483647, 2147483648}[chance.Intn(9)]
			p := somePiece(chance, i, onward(i.Cum, far))
			if chance.Intn(20) == 0 {
				p.Stream = i.Streams
			}
			got, told, code := impl.DatTake(i, p)
			want, wanted, wantCode := slowTake(i, p)
			if code != wantCode || !sameValue(got, want) || !sameValue(told, wanted) {
				t.Fatalf("%v of %v: %v, %v, %d, want %v, %v, %d", i, p, got, told, code, want, wanted, wantCode)
			}
			if !impl.DatInOk(got) {
				t.Fatalf("%v of %v: %v is not ok", i, p, got)
			}
			codes[code]++
			units[len(told)]++
		}
	}
	if codes[0] < 1000 || codes[2] < 100 || codes[3] < 1000 || codes[4] < 1000 || units[1] < 100 || units[2] < 50 || units[3] < 20 {
		t.Errorf("%v, %v", codes, units)
	}
}

// Told by hand: how far what was seen is, and the gaps.
func TestDatAckOfKnownRuns(t *testing.T) {
	type gaps = []impl.FrmGap
	list := []struct {
		seen []int
		gaps gaps
	}{
		{nil, nil},
		{[]int{2}, gaps{{From: 2, To: 2}}},
		{[]int{16}, gaps{{From: 16, To: 16}}},
		{[]int{2, 3}, gaps{{From: 2, To: 3}}},
		{[]int{2, 4}, gaps{{From: 2, To: 2}, {From: 4, To: 4}}},
		{[]int{15, 16}, gaps{{From: 15, To: 16}}},
		{[]int{2, 3, 4, 5, 6, 7, 8, 9, 10, 11, 12, 13, 14, 15, 16}, gaps{{From: 2, To: 16}}},
		{[]int{3, 4, 6, 9, 10, 11, 16}, gaps{{From: 3, To: 4}, {From: 6, To: 6}, {From: 9, To: 11}, {From: 16, To: 16}}},
		{[]int{2, 4, 6, 8, 10}, gaps{{From: 2, To: 2}, {From: 4, To: 4}, {From: 6, To: 6}, {From: 8, To: 8}}},
		{[]int{2, 4, 6, 8, 10, 12, 14, 16}, gaps{{From: 2, To: 2}, {From: 4, To: 4}, {From: 6, To: 6}, {From: 8, To: 8}}},
		{[]int{2, 3, 5, 6, 8, 9, 11, 12, 14, 15}, gaps{{From: 2, To: 3}, {From: 5, To: 6}, {From: 8, To: 9}, {From: 11, To: 12}}},
		{[]int{2, 4, 6, 8, 9}, gaps{{From: 2, To: 2}, {From: 4, To: 4}, {From: 6, To: 6}, {From: 8, To: 9}}},
	}
	for _, l := range list {
		for _, cum := range cums {
			i := impl.DatIn{Streams: 1, Cum: cum, Ssns: []int{0}}
			for _, far := range l.seen {
				i.Seen = append(i.Seen, onward(cum, far))
			}
			if got, runs := impl.DatAck(i); got != cum || !slices.Equal(runs, l.gaps) {
				t.Errorf("%v: %d, %v", i, got, runs)
			}
		}
	}
}

// P43 and P59: an answer tells just what has come, as long as there is room, and is a chunk that is ok.
func TestDatAckOfAllThatCanBeSeen(t *testing.T) {
	for bits := range 1 << 15 {
		i := impl.DatIn{Streams: 1, Cum: cums[bits%len(cums)], Ssns: []int{0}}
		for far := 2; far <= 16; far++ {
			if bits>>(far-2)&1 == 1 {
				i.Seen = append(i.Seen, onward(i.Cum, far))
			}
		}
		cum, gaps := impl.DatAck(i)
		wanted, want := slowAck(i)
		if cum != wanted || !slices.Equal(gaps, want) {
			t.Fatalf("%v: %d, %v, want %v", i, cum, gaps, want)
		}
		var told []int
		for _, g := range gaps {
			for far := g.From; far <= g.To; far++ {
				told = append(told, onward(cum, far))
			}
		}
		if len(gaps) < 4 && !slices.Equal(told, i.Seen) || !slices.Equal(told, i.Seen[:len(told)]) {
			t.Fatalf("%v: %v", i, gaps)
		}
		if c := (impl.FrmChunk{Kind: impl.FrmSack, Tsn: cum, Window: impl.AscWindow, Gaps: gaps}); !impl.FrmChunkOk(c) {
			t.Fatalf("%v is not ok", c)
		}
	}
}

// streamsOf are the units by stream, those that are loose by themselves and sorted.
func streamsOf(units []impl.DatUnit) map[string][]string {
	out := map[string][]string{}
	for _, u := range units {
		name := strconv.Itoa(u.Stream)
		if u.Loose {
			name += " loose"
		}
		out[name] = append(out[name], string(u.Body))
	}
	for name, list := range out {
		if len(name) > 1 {
			slices.Sort(list)
		}
	}
	return out
}

func sameStreams(a []impl.DatUnit, b []impl.DatUnit) bool {
	x, y := streamsOf(a), streamsOf(b)
	if len(x) != len(y) {
		return false
	}
	for name := range x {
		if !slices.Equal(x[name], y[name]) {
			return false
		}
	}
	return true
}

// P21: the order in which pieces come does not show.
func TestDatTakeInAnyOrder(t *testing.T) {
	chance := rand.New(rand.NewSource(14))
	for round := range 1500 {
		next := nexts[chance.Intn(len(nexts))]
		streams := 1 + chance.Intn(3)
		o := impl.DatOutOpen(next, streams)
		i := impl.DatInOpen(next, streams)
		for s := range streams {
			o.Ssns[s] = []int{0, 65533, 65535}[chance.Intn(3)]
			i.Ssns[s] = o.Ssns[s]
		}
		for n := range 8 {
			o, _ = impl.DatPush(o, unitOf(n+round, chance.Intn(streams), 1+chance.Intn(48), chance.Intn(3) == 0))
		}
		given := o.Queue
		o, pieces := impl.DatSend(o)
		plain, units, _ := take(i, pieces...)
		given = given[:len(given)-len(o.Queue)]
		for at := range given {
			given[at].Mark = 0
		}
		if !sameValue(units, given) || len(plain.Have) != 0 || len(plain.Seen) != 0 || plain.Cum != onward(o.Next, -1) {
			t.Fatalf("%v: %v, %v", pieces, units, plain)
		}
		places := chance.Perm(len(pieces))
		if round < 500 {
			// Some of them twice.
			places = append(places, places[:chance.Intn(len(places)+1)]...)
			chance.Shuffle(len(places), func(a, b int) { places[a], places[b] = places[b], places[a] })
		}
		end, told := i, []impl.DatUnit(nil)
		for at, place := range places {
			var list []impl.DatUnit
			var code int
			end, list, code = impl.DatTake(end, pieces[place])
			if (code == 3) != slices.Contains(places[:at], place) || code != 0 && code != 3 {
				t.Fatalf("%v: %d at %d", places, code, at)
			}
			told = append(told, list...)
		}
		if !sameStreams(told, units) || !sameValue(end, plain) {
			t.Fatalf("%v: %v, %v, want %v, %v", places, told, end, units, plain)
		}
		cum, gaps := impl.DatAck(end)
		if wanted, _ := impl.DatAck(plain); cum != wanted || len(gaps) > 0 {
			t.Fatalf("%v: %d, %v", places, cum, gaps)
		}
	}
}

// P21, in each order of seven pieces, some of several streams and loose.
func TestDatTakeInEachOrder(t *testing.T) {
	o := impl.DatOutOpen(4294967293, 2)
	for n, u := range []impl.DatUnit{unitOf(1, 0, 20, false), unitOf(2, 1, 16, false), unitOf(3, 0, 3, true), unitOf(4, 1, 17, false), unitOf(5, 0, 1, false)} {
		u.Mark = n
		o, _ = impl.DatPush(o, u)
	}
	_, pieces := impl.DatSend(o)
	if len(pieces) != 7 {
		t.Fatalf("%v", pieces)
	}
	plain, units, _ := take(impl.DatInOpen(4294967293, 2), pieces...)
	for _, order := range orders(7) {
		i := impl.DatInOpen(4294967293, 2)
		var told []impl.DatUnit
		for _, at := range order {
			var list []impl.DatUnit
			i, list, _ = impl.DatTake(i, pieces[at])
			told = append(told, list...)
		}
		if !sameValue(i, plain) || !sameStreams(told, units) {
			t.Fatalf("%v: %v, %v", order, told, i)
		}
	}
}

// P44: with any one piece missing, all units of other streams, and all that are loose, are told but for the one that misses it.
func TestDatTakeBehindAHole(t *testing.T) {
	chance := rand.New(rand.NewSource(15))
	for range 600 {
		next := nexts[chance.Intn(len(nexts))]
		o := impl.DatOutOpen(next, 3)
		for n := range 8 {
			o, _ = impl.DatPush(o, unitOf(n, chance.Intn(3), 1+chance.Intn(40), chance.Intn(3) == 0))
		}
		given := o.Queue
		o, pieces := impl.DatSend(o)
		given = given[:len(given)-len(o.Queue)]
		hole := chance.Intn(len(pieces))
		var want []impl.DatUnit
		at, held := 0, -1
		for _, u := range given {
			count := (len(u.Body) + 15) / 16
			misses := hole >= at && hole < at+count
			if misses && !u.Loose {
				held = u.Stream
			}
			if !misses && (u.Loose || u.Stream != held) {
				want = append(want, u)
			}
			at += count
		}
		i := impl.DatInOpen(next, 3)
		var told []impl.DatUnit
		for _, place := range chance.Perm(len(pieces)) {
			if place != hole {
				var list []impl.DatUnit
				i, list, _ = impl.DatTake(i, pieces[place])
				told = append(told, list...)
			}
		}
		if !sameStreams(told, want) || i.Cum != onward(next, hole-1) || len(i.Seen) != len(pieces)-1-hole {
			t.Fatalf("%v without %d: %v, want %v; %v", pieces, hole, told, want, i)
		}
	}
}

// P44: a unit is told with the very piece that makes it whole.
func TestDatTakeTellsAtOnce(t *testing.T) {
	for _, cum := range cums {
		i := impl.DatIn{Streams: 3, Cum: cum, Ssns: []int{0, 0, 0}}
		// The number behind Cum, of the stream 0, is missing all along.
		steps := []struct {
			p    impl.DatPiece
			told string
		}{
			{word(onward(cum, 2), 0, 1, "fl", 'a'), ""},
			{word(onward(cum, 3), 1, 0, "f", 'b'), ""},
			{word(onward(cum, 5), 2, 1, "fl", 'c'), ""},
			{word(onward(cum, 4), 1, 0, "l", 'd'), "bd"},
			{word(onward(cum, 6), 0, 0, "flo", 'e'), "e"},
			{word(onward(cum, 8), 0, 0, "lo", 'f'), ""},
			{word(onward(cum, 7), 0, 0, "fo", 'g'), "gf"},
			{word(onward(cum, 16), 2, 0, "fl", 'h'), "h c"},
			{word(onward(cum, 9), 0, 2, "fl", 'i'), ""},
			{word(onward(cum, 1), 0, 0, "fl", 'j'), "j a i"},
		}
		for _, s := range steps {
			var units []impl.DatUnit
			i, units, _ = impl.DatTake(i, s.p)
			told := ""
			for at, u := range units {
				if at > 0 {
					told += " "
				}
				told += string(u.Body)
			}
			if told != s.told {
				t.Fatalf("%v: %q, want %q", s.p, told, s.told)
			}
		}
		if len(i.Have) != 0 || i.Cum != onward(cum, 9) || !slices.Equal(i.Seen, []int{onward(cum, 16)}) {
			t.Errorf("%v", i)
		}
	}
}

func TestDatInMemory(t *testing.T) {
	chance := rand.New(rand.NewSource(16))
	for _, given := range append(someIns(17, 500), goodIn()) {
		i := roomy(given)
		for _, far := range []int{0, 1, 2, 9, 20} {
			p := roomy(somePiece(chance, i, onward(i.Cum, far)))
			checkMemory(t, "DatTake", func() []any {
				got, told, _ := impl.DatTake(i, p)
				return []any{got, told}
			}, i, p)
		}
		checkMemory(t, "DatTake", func() []any {
			got, told, _ := impl.DatTake(i, impl.DatPiece{})
			return []any{got, told}
		}, i)
		checkMemory(t, "DatAck", func() []any {
			_, gaps := impl.DatAck(i)
			return []any{gaps}
		}, i)
		checkMemory(t, "DatInOk", func() []any {
			impl.DatInOk(i)
			return nil
		}, i)
	}
	checkMemory(t, "DatInOpen", func() []any {
		return []any{impl.DatInOpen(1, 2), impl.DatInOpen(1, 2)}
	})
}
