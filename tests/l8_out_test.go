package tests

import (
	"math"
	"math/rand"
	"slices"
	"strconv"
	"testing"

	"loop.example/trunk/impl"
)

// onward is a long number so many further on.
func onward(tsn int, n int) int {
	return ((tsn+n)%4294967296 + 4294967296) % 4294967296
}

// unitOf is a unit of so many bytes; its mark shows in them.
func unitOf(mark int, stream int, size int, loose bool) impl.DatUnit {
	body := make([]byte, size)
	for i := range body {
		body[i] = byte(31*mark + 7*stream + i)
	}
	return impl.DatUnit{Mark: mark, Stream: stream, Loose: loose, Body: body}
}

func slowUnitOk(u impl.DatUnit) bool {
	return u.Mark >= 0 && u.Mark <= 1000000 && u.Stream >= 0 && u.Stream <= 7 && len(u.Body) != 0 && len(u.Body) < 49
}

func slowPieceOk(p impl.DatPiece, streams int) bool {
	if !long.has(p.Tsn) || p.Stream < 0 || p.Stream >= streams || len(p.Body) == 0 || len(p.Body) > 16 {
		return false
	}
	return p.Ssn == 0 || !p.Loose && short.has(p.Ssn)
}

func slowOutOk(o impl.DatOut) bool {
	if o.Streams < 1 || o.Streams > 8 || len(o.Ssns) != o.Streams || !long.has(o.Next) || len(o.Flight) > 8 || len(o.Queue) > 12 {
		return false
	}
	for _, ssn := range o.Ssns {
		if !short.has(ssn) {
			return false
		}
	}
	for at, s := range o.Flight {
		behind := o.Next
		if at+1 < len(o.Flight) {
			behind = o.Flight[at+1].Piece.Tsn
		}
		if !slowPieceOk(s.Piece, o.Streams) || onward(s.Piece.Tsn, 1) != behind || at == 0 && s.Acked {
			return false
		}
		if s.Times < 1 || s.Times > 1000000 || s.Mark < 0 || s.Mark > 1000000 {
			return false
		}
	}
	for _, u := range o.Queue {
		if !slowUnitOk(u) || u.Stream >= o.Streams {
			return false
		}
	}
	return true
}

// slowBodies deals out bytes one by one.
func slowBodies(u impl.DatUnit) [][]byte {
	var out [][]byte
	for at, b := range u.Body {
		if at%16 == 0 {
			out = append(out, nil)
		}
		out[len(out)-1] = append(out[len(out)-1], b)
	}
	return out
}

func slowSend(given impl.DatOut) (impl.DatOut, []impl.DatPiece) {
	if !slowOutOk(given) {
		return impl.DatOut{}, nil
	}
	o := roomy(given)
	var told []impl.DatPiece
	for len(o.Queue) > 0 && len(o.Flight)+len(slowBodies(o.Queue[0])) <= 8 {
		u := o.Queue[0]
		o.Queue = o.Queue[1:]
		bodies := slowBodies(u)
		for at, body := range bodies {
			p := impl.DatPiece{Tsn: o.Next, Stream: u.Stream, Loose: u.Loose, Body: body}
			if !u.Loose {
				p.Ssn = o.Ssns[u.Stream]
			}
			p.First = at == 0
			p.Last = at == len(bodies)-1
			o.Flight = append(o.Flight, impl.DatSent{Mark: u.Mark, Piece: p, Times: 1})
			told = append(told, p)
			o.Next = onward(o.Next, 1)
		}
		if !u.Loose {
			o.Ssns[u.Stream] = (o.Ssns[u.Stream] + 1) % 65536
		}
	}
	return o, told
}

func slowAgain(given impl.DatOut, most int) (impl.DatOut, []impl.DatPiece) {
	if !slowOutOk(given) {
		return impl.DatOut{}, nil
	}
	o := roomy(given)
	var told []impl.DatPiece
	for at := range o.Flight {
		if !o.Flight[at].Acked && most > 0 {
			told = append(told, o.Flight[at].Piece)
			if o.Flight[at].Times < 1000000 {
				o.Flight[at].Times++
			}
			most--
		}
	}
	return o, told
}

func slowAcked(given impl.DatOut, cum int, gaps []impl.FrmGap) (impl.DatOut, int) {
	if !slowOutOk(given) {
		return impl.DatOut{}, 1
	}
	o := roomy(given)
	if !long.has(cum) || !slowGapsOk(gaps) {
		return o, 2
	}
	// All numbers that an answer may be up to.
	upTo := []int{onward(o.Next, -1)}
	for at := len(o.Flight) - 1; at >= 0; at-- {
		upTo = append([]int{onward(upTo[0], -1)}, upTo...)
	}
	come := slices.Index(upTo, cum)
	if come < 0 {
		return o, 3
	}
	told := map[int]bool{}
	for _, g := range gaps {
		if come+g.To >= len(upTo) {
			return o, 3
		}
		for far := g.From; far <= g.To; far++ {
			told[upTo[come+far]] = true
		}
	}
	var left []impl.DatSent
	for _, s := range o.Flight[come:] {
		s.Acked = s.Acked || told[s.Piece.Tsn]
		if len(left) > 0 || !s.Acked {
			left = append(left, s)
		}
	}
	o.Flight = left
	return o, 0
}

// flightOf is so many pieces ahead of next, with the marks 1, 1, 2, 2 and so on; those at the places acked are.
func flightOf(next int, count int, acked ...int) []impl.DatSent {
	var out []impl.DatSent
	for at := range count {
		p := impl.DatPiece{Tsn: onward(next, at-count), Ssn: at / 2, First: at%2 == 0, Last: at%2 == 1, Body: counted(1 + at)}
		out = append(out, impl.DatSent{Mark: 1 + at/2, Piece: p, Times: 1 + at, Acked: slices.Contains(acked, at)})
	}
	return out
}

// nexts are numbers of the next piece, those at which numbers wrap inside Flight among them.
var nexts = []int{0, 1, 2, 4, 7, 8, 9, 100, 2147483647, 2147483648, 4294967288, 4294967294, 4294967295}

// someOut is a side that is ok, each of its numbers often at a bound.
func someOut(chance *rand.Rand) impl.DatOut {
	o := impl.DatOut{Streams: []int{1, 2, 3, 8}[chance.Intn(4)], Next: nexts[chance.Intn(len(nexts))]}
	for range o.Streams {
		o.Ssns = append(o.Ssns, []int{0, 1, 65534, 65535}[chance.Intn(4)])
	}
	flight := chance.Intn(9)
	for at := range flight {
		p := impl.DatPiece{Tsn: onward(o.Next, at-flight), Stream: chance.Intn(o.Streams), First: chance.Intn(2) == 0, Last: chance.Intn(2) == 0, Loose: chance.Intn(3) == 0}
		if !p.Loose {
			p.Ssn = []int{0, 7, 65535}[chance.Intn(3)]
		}
		p.Body = counted([]int{1, 2, 16}[chance.Intn(3)])
		mark := []int{0, 1, 1000000}[chance.Intn(3)]
		o.Flight = append(o.Flight, impl.DatSent{Mark: mark, Piece: p, Times: []int{1, 2, 999999, 1000000}[chance.Intn(4)], Acked: at > 0 && chance.Intn(3) == 0})
	}
	for range []int{0, 1, 2, 5, 11, 12}[chance.Intn(6)] {
		mark := []int{0, chance.Intn(100), 1000000}[chance.Intn(3)]
		o.Queue = append(o.Queue, unitOf(mark, chance.Intn(o.Streams), []int{1, 15, 16, 17, 31, 32, 33, 47, 48}[chance.Intn(9)], chance.Intn(3) == 0))
	}
	return o
}

// someOuts are many of them.
func someOuts(seed int64, count int) []impl.DatOut {
	chance := rand.New(rand.NewSource(seed))
	var out []impl.DatOut
	for range count {
		out = append(out, someOut(chance))
	}
	return out
}

// goodOut has something of all.
func goodOut() impl.DatOut {
	return impl.DatOut{
		Streams: 2, Next: 2, Ssns: []int{4, 65535}, Flight: flightOf(2, 4, 2),
		Queue: []impl.DatUnit{unitOf(7, 1, 40, false), unitOf(8, 0, 1, true), unitOf(9, 1, 48, false)},
	}
}

// badOuts are not ok, each in one of the ways that the document tells.
func badOuts() map[string]impl.DatOut {
	out := map[string]impl.DatOut{"nothing": {}}
	spoil := func(name string, turn func(o *impl.DatOut)) {
		o := roomy(goodOut())
		turn(&o)
		out[name] = o
	}
	for _, n := range []int{0, -1, 9, 1, 3, math.MinInt, math.MaxInt} {
		spoil("Streams "+strconv.Itoa(n), func(o *impl.DatOut) { o.Streams = n })
	}
	spoil("no streams", func(o *impl.DatOut) { o.Streams, o.Ssns, o.Flight, o.Queue = 0, nil, nil, nil })
	spoil("nine streams", func(o *impl.DatOut) { o.Streams, o.Ssns = 9, make([]int, 9) })
	spoil("no Ssns", func(o *impl.DatOut) { o.Ssns = nil })
	spoil("fewer Ssns", func(o *impl.DatOut) { o.Ssns = o.Ssns[:1] })
	spoil("more Ssns", func(o *impl.DatOut) { o.Ssns = append(o.Ssns, 0) })
	for _, n := range []int{-1, 65536, math.MinInt, math.MaxInt} {
		spoil("first Ssn "+strconv.Itoa(n), func(o *impl.DatOut) { o.Ssns[0] = n })
		spoil("last Ssn "+strconv.Itoa(n), func(o *impl.DatOut) { o.Ssns[1] = n })
		spoil("Ssn of a piece "+strconv.Itoa(n), func(o *impl.DatOut) { o.Flight[1].Piece.Ssn = n })
	}
	for _, n := range []int{-1, 4294967296, math.MinInt, math.MaxInt} {
		spoil("Next "+strconv.Itoa(n), func(o *impl.DatOut) { o.Next = n })
		spoil("Next "+strconv.Itoa(n)+" behind nothing", func(o *impl.DatOut) { o.Next, o.Flight = n, nil })
		spoil("Tsn "+strconv.Itoa(n), func(o *impl.DatOut) { o.Flight[3].Piece.Tsn = n })
	}
	spoil("the last one not ahead of Next", func(o *impl.DatOut) { o.Next = 3 })
	spoil("the last one is Next", func(o *impl.DatOut) { o.Next = 1 })
	spoil("Next beyond the end of numbers", func(o *impl.DatOut) { o.Next, o.Flight = 4294967296, flightOf(0, 2) })
	spoil("a number beyond the end of numbers", func(o *impl.DatOut) { o.Flight[2].Piece.Tsn = 4294967296 })
	spoil("a number below 0", func(o *impl.DatOut) { o.Flight[1].Piece.Tsn = -1 })
	spoil("a hole", func(o *impl.DatOut) { o.Flight = append(o.Flight[:1], o.Flight[2:]...) })
	spoil("a hole ahead", func(o *impl.DatOut) { o.Flight[0].Piece.Tsn = onward(o.Flight[0].Piece.Tsn, -1) })
	spoil("one number twice", func(o *impl.DatOut) { o.Flight[1].Piece.Tsn = o.Flight[0].Piece.Tsn })
	spoil("out of order", func(o *impl.DatOut) { slices.Reverse(o.Flight) })
	spoil("nine under way", func(o *impl.DatOut) { o.Flight = flightOf(2, 9) })
	spoil("the first one answered", func(o *impl.DatOut) { o.Flight[0].Acked = true })
	spoil("the only one answered", func(o *impl.DatOut) { o.Flight = flightOf(2, 1, 0) })
	for _, n := range []int{-1, 2, 7, math.MinInt, math.MaxInt} {
		spoil("stream of a piece "+strconv.Itoa(n), func(o *impl.DatOut) { o.Flight[3].Piece.Stream = n })
		spoil("stream of a unit "+strconv.Itoa(n), func(o *impl.DatOut) { o.Queue[2].Stream = n })
	}
	spoil("a loose piece with an Ssn", func(o *impl.DatOut) { o.Flight[3].Piece.Loose = true })
	spoil("a piece without bytes", func(o *impl.DatOut) { o.Flight[2].Piece.Body = nil })
	spoil("a piece of 17 bytes", func(o *impl.DatOut) { o.Flight[2].Piece.Body = counted(17) })
	for _, n := range []int{-1, 1000001, math.MinInt, math.MaxInt} {
		spoil("Times "+strconv.Itoa(n), func(o *impl.DatOut) { o.Flight[3].Times = n })
		spoil("Mark of a piece "+strconv.Itoa(n), func(o *impl.DatOut) { o.Flight[3].Mark = n })
		spoil("Mark of a unit "+strconv.Itoa(n), func(o *impl.DatOut) { o.Queue[0].Mark = n })
	}
	spoil("never said", func(o *impl.DatOut) { o.Flight[0].Times = 0 })
	spoil("thirteen wait", func(o *impl.DatOut) { o.Queue = slices.Repeat(o.Queue[:1], 13) })
	spoil("a unit without bytes", func(o *impl.DatOut) { o.Queue[1].Body = nil })
	spoil("a unit of 49 bytes", func(o *impl.DatOut) { o.Queue[1].Body = counted(49) })
	return out
}

func TestDatUnitOkAtLimits(t *testing.T) {
	for _, mark := range append([]int{5}, wide...) {
		for _, stream := range []int{-1, 0, 3, 7, 8, math.MinInt, math.MaxInt} {
			for _, size := range []int{0, 1, 16, 17, 47, 48, 49, 200} {
				for _, loose := range []bool{false, true} {
					u := impl.DatUnit{Mark: mark, Stream: stream, Loose: loose, Body: counted(size)}
					want := mark >= 0 && mark <= 1000000 && stream >= 0 && stream < 8 && size >= 1 && size <= 48
					if got := impl.DatUnitOk(u); got != want {
						t.Errorf("%v: %v", u, got)
					}
				}
			}
		}
	}
}

func TestDatOutOkOfGoodSides(t *testing.T) {
	good := []impl.DatOut{goodOut(), {Streams: 1, Ssns: []int{0}}, {Streams: 8, Next: 4294967295, Ssns: slices.Repeat([]int{65535}, 8)}}
	for _, next := range nexts {
		for count := range 9 {
			good = append(good, impl.DatOut{Streams: 1, Next: next, Ssns: []int{9}, Flight: flightOf(next, count, 1, 3, 7)})
		}
	}
	for _, o := range append(good, someOuts(1, 500)...) {
		if !slowOutOk(o) || !impl.DatOutOk(o) {
			t.Fatalf("%v is not ok", o)
		}
	}
	o := goodOut()
	o.Queue = slices.Repeat(o.Queue, 4)
	o.Flight = flightOf(2, 8, 7)
	o.Flight[0].Times, o.Flight[1].Times, o.Flight[2].Mark, o.Flight[3].Mark = 1, 1000000, 0, 1000000
	o.Flight[4].Piece.Ssn, o.Flight[5].Piece.Body, o.Flight[6].Piece.Stream = 65535, counted(16), 1
	if len(o.Queue) != 12 || !impl.DatOutOk(o) {
		t.Errorf("%v is not ok", o)
	}
}

func TestDatRefusesOutsThatAreNotOk(t *testing.T) {
	u := unitOf(1, 0, 1, false)
	for name, o := range badOuts() {
		if slowOutOk(o) || impl.DatOutOk(o) {
			t.Errorf("%s: it is ok", name)
		}
		none := impl.DatOut{}
		// What else is wrong is asked only behind that.
		for _, u := range []impl.DatUnit{u, {}} {
			if got, code := impl.DatPush(o, u); code != 1 || !sameValue(got, none) {
				t.Errorf("%s: %v, %d", name, got, code)
			}
		}
		if got, told := impl.DatSend(o); len(told) != 0 || !sameValue(got, none) {
			t.Errorf("%s: %v, %v", name, got, told)
		}
		for _, most := range []int{-1, 0, 4} {
			if got, told := impl.DatAgain(o, most); len(told) != 0 || !sameValue(got, none) {
				t.Errorf("%s: %v, %v", name, got, told)
			}
		}
		for _, cum := range []int{-1, onward(o.Next, -1), 0, 2} {
			if got, code := impl.DatAcked(o, cum, nil); code != 1 || !sameValue(got, none) {
				t.Errorf("%s: %v, %d", name, got, code)
			}
		}
		if units, marks := impl.DatEnd(o); len(units) != 0 || len(marks) != 0 {
			t.Errorf("%s: %v, %v", name, units, marks)
		}
	}
}

func TestDatOutOpen(t *testing.T) {
	for _, tsn := range append([]int{5}, wide...) {
		for _, streams := range []int{math.MinInt, -1, 0, 1, 2, 7, 8, 9, math.MaxInt} {
			got := impl.DatOutOpen(tsn, streams)
			want := impl.DatOut{}
			if long.has(tsn) && streams >= 1 && streams <= 8 {
				want = impl.DatOut{Streams: streams, Next: tsn, Ssns: []int{0, 0, 0, 0, 0, 0, 0, 0}[:streams]}
			}
			if !sameValue(got, want) || impl.DatOutOk(got) != (want.Streams > 0) {
				t.Errorf("%d, %d: %v, want %v", tsn, streams, got, want)
			}
		}
	}
}

func TestDatPushPutsBehind(t *testing.T) {
	for _, o := range append(someOuts(2, 300), goodOut(), impl.DatOutOpen(4294967295, 8)) {
		for _, u := range []impl.DatUnit{unitOf(0, 0, 1, false), unitOf(1000000, o.Streams-1, 48, true)} {
			got, code := impl.DatPush(o, u)
			want := o
			if len(o.Queue) == 12 {
				if code != 5 || !sameValue(got, o) {
					t.Fatalf("%v: %v, %d", o, got, code)
				}
				continue
			}
			want.Queue = append(slices.Clip(o.Queue), u)
			if code != 0 || !sameValue(got, want) || !impl.DatOutOk(got) {
				t.Fatalf("%v: %v, %d", o, got, code)
			}
		}
	}
}

func TestDatPushUntilItIsFull(t *testing.T) {
	o := impl.DatOutOpen(0, 1)
	for n := range 15 {
		got, code := impl.DatPush(o, unitOf(n, 0, 3, false))
		want := 0
		if n >= impl.DatMaxQueue {
			want = 5
		}
		if code != want || len(got.Queue) != min(n+1, 12) || got.Queue[min(n, 11)].Mark != min(n, 11) {
			t.Fatalf("the unit %d: %v, %d", n, got, code)
		}
		o = got
	}
}

func TestDatPushRefusesUnits(t *testing.T) {
	crowded := goodOut()
	crowded.Queue = slices.Repeat(crowded.Queue, 4)
	for _, o := range []impl.DatOut{goodOut(), crowded} {
		bad := []impl.DatUnit{
			{}, unitOf(1, 0, 0, false), unitOf(1, 0, 49, true), unitOf(-1, 0, 1, false), unitOf(1000001, 0, 1, false),
			unitOf(1, -1, 1, false), unitOf(1, 2, 1, false), unitOf(1, 7, 1, true), unitOf(1, 8, 1, false),
		}
		for _, u := range bad {
			if got, code := impl.DatPush(o, u); code != 2 || !sameValue(got, o) {
				t.Errorf("%v: %v, %d", u, got, code)
			}
		}
	}
}

// Told by hand: the sizes of what waits, how many are under way, and the sizes of the pieces that are said.
func TestDatSendOfKnownSizes(t *testing.T) {
	list := []struct {
		waits  []int
		flight int
		says   []int
		left   int
	}{
		{nil, 0, nil, 0},
		{nil, 8, nil, 0},
		{[]int{1}, 0, []int{1}, 0},
		{[]int{16}, 0, []int{16}, 0},
		{[]int{17}, 0, []int{16, 1}, 0},
		{[]int{32}, 0, []int{16, 16}, 0},
		{[]int{33}, 0, []int{16, 16, 1}, 0},
		{[]int{48}, 0, []int{16, 16, 16}, 0},
		{[]int{1}, 7, []int{1}, 0},
		{[]int{16}, 7, []int{16}, 0},
		{[]int{17}, 7, nil, 1},
		{[]int{17}, 6, []int{16, 1}, 0},
		{[]int{48}, 6, nil, 1},
		{[]int{48}, 5, []int{16, 16, 16}, 0},
		{[]int{1}, 8, nil, 1},
		{[]int{48, 1, 1}, 7, nil, 3},
		{[]int{48, 1, 1}, 4, []int{16, 16, 16, 1}, 1},
		{[]int{48, 48, 48}, 0, []int{16, 16, 16, 16, 16, 16}, 1},
		{[]int{48, 48, 1, 1, 1}, 0, []int{16, 16, 16, 16, 16, 16, 1, 1}, 1},
		{[]int{48, 48, 17, 1}, 0, []int{16, 16, 16, 16, 16, 16, 16, 1}, 1},
		{[]int{1, 1, 1, 1, 1, 1, 1, 1, 1, 1, 1, 1}, 0, []int{1, 1, 1, 1, 1, 1, 1, 1}, 4},
		{[]int{1, 40, 1}, 7, []int{1}, 2},
	}
	for _, l := range list {
		for _, next := range nexts {
			o := impl.DatOut{Streams: 1, Next: next, Ssns: []int{9}, Flight: flightOf(next, l.flight)}
			for at, size := range l.waits {
				o.Queue = append(o.Queue, unitOf(at, 0, size, false))
			}
			got, told := impl.DatSend(o)
			var says []int
			for _, p := range told {
				says = append(says, len(p.Body))
			}
			if !slices.Equal(says, l.says) || len(got.Queue) != l.left || len(got.Flight) != l.flight+len(l.says) || got.Next != onward(next, len(l.says)) || got.Ssns[0] != 9+len(l.waits)-l.left {
				t.Errorf("%v behind %d: %v, %v", l.waits, l.flight, says, got)
			}
		}
	}
}

func TestDatSendCutsAtTheEndOfNumbers(t *testing.T) {
	o := impl.DatOut{Streams: 3, Next: 4294967294, Ssns: []int{7, 65535, 0}, Queue: []impl.DatUnit{
		{Mark: 5, Stream: 1, Body: counted(40)}, {Mark: 6, Stream: 2, Loose: true, Body: []byte{9}}, {Mark: 7, Stream: 1, Body: []byte{8}}, {Mark: 0, Stream: 0, Loose: true, Body: counted(18)}, {Mark: 8, Stream: 0, Body: counted(17)},
	}}
	all := counted(40)
	want := []impl.DatPiece{
		{Tsn: 4294967294, Stream: 1, Ssn: 65535, First: true, Body: all[:16]},
		{Tsn: 4294967295, Stream: 1, Ssn: 65535, Body: all[16:32]},
		{Tsn: 0, Stream: 1, Ssn: 65535, Last: true, Body: all[32:]},
		{Tsn: 1, Stream: 2, First: true, Last: true, Loose: true, Body: []byte{9}},
		{Tsn: 2, Stream: 1, First: true, Last: true, Body: []byte{8}},
		{Tsn: 3, First: true, Loose: true, Body: all[:16]},
		{Tsn: 4, Last: true, Loose: true, Body: all[16:18]},
	}
	got, told := impl.DatSend(o)
	if !sameValue(told, want) {
		t.Errorf("%v", told)
	}
	end := impl.DatOut{Streams: 3, Next: 5, Ssns: []int{7, 1, 0}, Queue: o.Queue[4:]}
	for at, mark := range []int{5, 5, 5, 6, 7, 0, 0} {
		end.Flight = append(end.Flight, impl.DatSent{Mark: mark, Piece: want[at], Times: 1})
	}
	if !sameValue(got, end) {
		t.Errorf("%v, want %v", got, end)
	}
}

// P45 and P59: the pieces are cut from the first of Queue; what waits then does not fit; each is a chunk that is ok.
func TestDatSendOfManySides(t *testing.T) {
	for _, o := range append(someOuts(3, 3000), goodOut()) {
		got, told := impl.DatSend(o)
		want, wanted := slowSend(o)
		if !sameValue(got, want) || !sameValue(told, wanted) {
			t.Fatalf("%v: %v, %v, want %v, %v", o, got, told, want, wanted)
		}
		if !impl.DatOutOk(got) {
			t.Fatalf("%v: %v is not ok", o, got)
		}
		said := len(o.Queue) - len(got.Queue)
		var given, cut []byte
		for _, u := range o.Queue[:said] {
			given = append(given, u.Body...)
		}
		for _, p := range told {
			cut = append(cut, p.Body...)
			if c := chunkOf(p); !impl.FrmChunkOk(c) {
				t.Fatalf("%v is not ok", c)
			}
		}
		if !slices.Equal(given, cut) || !sameValue(got.Queue, o.Queue[said:]) {
			t.Fatalf("%v: %v", o, told)
		}
		if len(got.Flight) > impl.DatMaxFlight || len(got.Queue) > 0 && len(got.Flight)+(len(got.Queue[0].Body)+15)/16 <= 8 {
			t.Fatalf("%v: %v", o, got)
		}
		if again, more := impl.DatSend(got); len(more) > 0 || !sameValue(again, got) {
			t.Fatalf("%v: it says %v", got, more)
		}
	}
}

// chunkOf is the chunk in which a piece goes over a line.
func chunkOf(p impl.DatPiece) impl.FrmChunk {
	c := impl.FrmChunk{Kind: impl.FrmData, Tsn: p.Tsn, Stream: p.Stream, Ssn: p.Ssn, Body: p.Body}
	if p.First {
		c.Flags += impl.FrmFirst
	}
	if p.Last {
		c.Flags += impl.FrmLast
	}
	if p.Loose {
		c.Flags += impl.FrmLoose
	}
	return c
}

func TestDatAgainOfEachCount(t *testing.T) {
	o := goodOut()
	o.Flight = flightOf(2, 8, 2, 3, 6)
	o.Flight[1].Times, o.Flight[5].Times = 999999, 1000000
	// Places that are said again, in order, and how often they were said then.
	places, times := []int{0, 1, 4, 5, 7}, []int{2, 1000000, 6, 1000000, 9}
	for _, most := range []int{math.MinInt, -1, 0, 1, 2, 3, 4, 5, 6, 8, 9, math.MaxInt} {
		want := roomy(o)
		var wanted []impl.DatPiece
		for n := range max(0, min(most, 5)) {
			want.Flight[places[n]].Times = times[n]
			wanted = append(wanted, o.Flight[places[n]].Piece)
		}
		if got, told := impl.DatAgain(o, most); !sameValue(got, want) || !sameValue(told, wanted) {
			t.Errorf("%d: %v, %v", most, got, told)
		}
	}
}

func TestDatAgainOfManySides(t *testing.T) {
	for _, o := range someOuts(4, 1000) {
		for _, most := range []int{-1, 0, 1, 3, 4, 7, 8, 9} {
			got, told := impl.DatAgain(o, most)
			want, wanted := slowAgain(o, most)
			if !sameValue(got, want) || !sameValue(told, wanted) || !impl.DatOutOk(got) {
				t.Fatalf("%v, %d: %v, %v, want %v, %v", o, most, got, told, want, wanted)
			}
		}
	}
}

// Told by hand: how far behind the number ahead of Flight's first cum is, the gaps, and which places are under way then, and Acked.
func TestDatAckedOfKnownAnswers(t *testing.T) {
	type gaps = []impl.FrmGap
	list := []struct {
		count int
		acked []int
		come  int
		gaps  gaps
		code  int
		left  []int
		then  []int
	}{
		// Nothing is under way.
		{0, nil, 0, nil, 0, nil, nil},
		{0, nil, -1, nil, 3, nil, nil},
		{0, nil, 1, nil, 3, nil, nil},
		{0, nil, 0, gaps{{From: 2, To: 2}}, 3, nil, nil},
		// Up to each number, and one beyond on both sides.
		{3, nil, -1, nil, 3, nil, nil},
		{3, nil, 0, nil, 0, []int{0, 1, 2}, nil},
		{3, nil, 1, nil, 0, []int{1, 2}, nil},
		{3, nil, 2, nil, 0, []int{2}, nil},
		{3, nil, 3, nil, 0, nil, nil},
		{3, nil, 4, nil, 3, nil, nil},
		{8, nil, 8, nil, 0, nil, nil},
		{8, nil, 9, nil, 3, nil, nil},
		{3, nil, 2147483647, nil, 3, nil, nil},
		{3, nil, -2147483648, nil, 3, nil, nil},
		// Gaps, and one beyond.
		{3, nil, 0, gaps{{From: 2, To: 2}}, 0, []int{0, 1, 2}, []int{1}},
		{3, nil, 0, gaps{{From: 2, To: 3}}, 0, []int{0, 1, 2}, []int{1, 2}},
		{3, nil, 0, gaps{{From: 3, To: 3}}, 0, []int{0, 1, 2}, []int{2}},
		{3, nil, 0, gaps{{From: 2, To: 4}}, 3, nil, nil},
		{3, nil, 0, gaps{{From: 4, To: 4}}, 3, nil, nil},
		{3, nil, 0, gaps{{From: 2, To: 2}, {From: 4, To: 4}}, 3, nil, nil},
		{3, nil, 1, gaps{{From: 2, To: 2}}, 0, []int{1, 2}, []int{2}},
		{3, nil, 1, gaps{{From: 2, To: 3}}, 3, nil, nil},
		{3, nil, 2, gaps{{From: 2, To: 2}}, 3, nil, nil},
		{3, nil, 3, gaps{{From: 2, To: 2}}, 3, nil, nil},
		{8, nil, 0, gaps{{From: 2, To: 8}}, 0, []int{0, 1, 2, 3, 4, 5, 6, 7}, []int{1, 2, 3, 4, 5, 6, 7}},
		{8, nil, 0, gaps{{From: 2, To: 9}}, 3, nil, nil},
		{8, nil, 0, gaps{{From: 2, To: 65535}}, 3, nil, nil},
		{8, nil, 0, gaps{{From: 2, To: 2}, {From: 4, To: 4}, {From: 6, To: 6}, {From: 8, To: 8}}, 0, []int{0, 1, 2, 3, 4, 5, 6, 7}, []int{1, 3, 5, 7}},
		{8, nil, 3, gaps{{From: 2, To: 3}, {From: 5, To: 5}}, 0, []int{3, 4, 5, 6, 7}, []int{4, 5, 7}},
		{8, nil, 6, gaps{{From: 2, To: 2}}, 0, []int{6, 7}, []int{7}},
		// What was answered ahead of that stays so, and goes when it is the first.
		{5, []int{2}, 0, nil, 0, []int{0, 1, 2, 3, 4}, []int{2}},
		{5, []int{2}, 2, nil, 0, []int{3, 4}, nil},
		{5, []int{1, 2, 3}, 1, nil, 0, []int{4}, nil},
		{5, []int{1, 2, 3, 4}, 1, nil, 0, nil, nil},
		{5, []int{1, 3}, 1, nil, 0, []int{2, 3, 4}, []int{3}},
		{5, []int{1, 2}, 1, gaps{{From: 3, To: 3}}, 0, []int{4}, nil},
		{5, []int{1}, 1, gaps{{From: 2, To: 2}}, 0, []int{3, 4}, nil},
		{5, []int{2}, 0, gaps{{From: 4, To: 5}}, 0, []int{0, 1, 2, 3, 4}, []int{2, 3, 4}},
		{5, []int{4}, 3, gaps{{From: 2, To: 2}}, 0, []int{3, 4}, []int{4}},
	}
	for _, l := range list {
		for _, next := range nexts {
			o := impl.DatOut{Streams: 1, Next: next, Ssns: []int{3}, Flight: flightOf(next, l.count, l.acked...), Queue: []impl.DatUnit{unitOf(4, 0, 20, false)}}
			want := o
			if l.code == 0 {
				want.Flight = nil
				for _, at := range l.left {
					s := o.Flight[at]
					s.Acked = slices.Contains(l.then, at)
					want.Flight = append(want.Flight, s)
				}
			}
			cum := onward(next, l.come-l.count-1)
			got, code := impl.DatAcked(o, cum, l.gaps)
			if code != l.code || !sameValue(got, want) || !impl.DatOutOk(got) {
				t.Errorf("%d under way ahead of %d, up to %d, %v: %v, %d", l.count, next, cum, l.gaps, got, code)
			}
		}
	}
}

// badGaps are not ok, each in one way.
var badGaps = [][]impl.FrmGap{
	{{}}, {{From: 1, To: 1}}, {{From: 1, To: 2}}, {{From: 0, To: 2}}, {{From: -1, To: 2}}, {{From: 3, To: 2}}, {{From: 2, To: 0}}, {{From: 2, To: -1}},
	{{From: 2, To: 65536}}, {{From: 65536, To: 65536}}, {{From: 2, To: 2}, {From: 3, To: 3}}, {{From: 2, To: 3}, {From: 3, To: 4}}, {{From: 4, To: 4}, {From: 2, To: 2}},
	{{From: 2, To: 2}, {From: 4, To: 3}}, {{From: 2, To: 2}, {From: 2, To: 2}}, {{From: 2, To: 65535}, {From: 65537, To: 65537}}, {{From: math.MinInt, To: math.MaxInt}},
	{{From: math.MaxInt, To: math.MinInt}}, {{From: 2, To: math.MaxInt}},
	{{From: 2, To: 2}, {From: 4, To: 4}, {From: 6, To: 6}, {From: 8, To: 8}, {From: 10, To: 10}},
}

func TestDatAckedRefusesWhatIsNoAnswer(t *testing.T) {
	sides := []impl.DatOut{goodOut(), impl.DatOutOpen(5, 1), {Streams: 1, Ssns: []int{0}, Flight: flightOf(0, 8)}}
	for _, o := range sides {
		for _, cum := range []int{-1, 4294967296, math.MinInt, math.MaxInt, onward(o.Next, -1) + 4294967296, onward(o.Next, -1) - 4294967296} {
			for _, gaps := range [][]impl.FrmGap{nil, {{From: 2, To: 2}}, {{}}} {
				if got, code := impl.DatAcked(o, cum, gaps); code != 2 || !sameValue(got, o) {
					t.Errorf("%d, %v: %v, %d", cum, gaps, got, code)
				}
			}
		}
		// A number that is none of those is asked only behind gaps that are not ok.
		for _, cum := range []int{onward(o.Next, -1), onward(o.Next, -1-len(o.Flight)), onward(o.Next, 5)} {
			for _, gaps := range badGaps {
				if got, code := impl.DatAcked(o, cum, gaps); code != 2 || !sameValue(got, o) {
					t.Errorf("%d, %v: %v, %d", cum, gaps, got, code)
				}
			}
		}
	}
}

// someAnswer is an answer, often one that a side may hear.
func someAnswer(chance *rand.Rand, o impl.DatOut) (int, []impl.FrmGap) {
	cum := onward(o.Next, chance.Intn(len(o.Flight)+4)-len(o.Flight)-2)
	var gaps []impl.FrmGap
	last := 0
	for range chance.Intn(4) {
		from := last + 1 + chance.Intn(4)
		last = from + chance.Intn(3)
		gaps = append(gaps, impl.FrmGap{From: from, To: last})
	}
	return cum, gaps
}

// P22: nothing that was not answered is ever let go.
func TestDatAckedOfManyAnswers(t *testing.T) {
	chance := rand.New(rand.NewSource(5))
	codes := map[int]int{}
	for _, o := range someOuts(6, 3000) {
		for range 4 {
			cum, gaps := someAnswer(chance, o)
			got, code := impl.DatAcked(o, cum, gaps)
			want, wanted := slowAcked(o, cum, gaps)
			if code != wanted || !sameValue(got, want) || !impl.DatOutOk(got) {
				t.Fatalf("%v, up to %d, %v: %v, %d, want %v, %d", o, cum, gaps, got, code, want, wanted)
			}
			codes[code]++
			if code != 0 {
				continue
			}
			for _, s := range o.Flight {
				if !s.Acked && !toldOf(s.Piece.Tsn, cum, gaps) && !slices.ContainsFunc(got.Flight, func(x impl.DatSent) bool { return sameValue(x, s) }) {
					t.Fatalf("%v, up to %d, %v: %v was let go", o, cum, gaps, s)
				}
			}
		}
	}
	if codes[0] < 1000 || codes[2] < 1000 || codes[3] < 1000 {
		t.Errorf("%v", codes)
	}
}

// toldOf says whether an answer tells a number.
func toldOf(tsn int, cum int, gaps []impl.FrmGap) bool {
	far := onward(tsn, -cum)
	if far == 0 || far >= 2147483648 {
		return true
	}
	return slices.ContainsFunc(gaps, func(g impl.FrmGap) bool { return far >= g.From && far <= g.To })
}

// P23: what was never said is told apart from what was.
func TestDatEndTellsBoth(t *testing.T) {
	list := []struct{ flight, marks []int }{
		{nil, nil}, {[]int{0}, []int{0}}, {[]int{0, 0}, []int{0}}, {[]int{3, 3, 3}, []int{3}}, {[]int{1, 2, 2, 1, 1, 0}, []int{1, 2, 1, 0}},
		{[]int{5, 4, 5, 4, 4, 4, 5, 5}, []int{5, 4, 5, 4, 5}}, {[]int{0, 1000000, 1000000, 0}, []int{0, 1000000, 0}},
	}
	for _, l := range list {
		for _, queue := range [][]impl.DatUnit{nil, goodOut().Queue} {
			o := impl.DatOut{Streams: 2, Next: 1, Ssns: []int{0, 0}, Flight: flightOf(1, len(l.flight), 1, 3), Queue: queue}
			for at, mark := range l.flight {
				o.Flight[at].Mark = mark
			}
			units, marks := impl.DatEnd(o)
			if !sameValue(units, queue) || !slices.Equal(marks, l.marks) {
				t.Errorf("%v: %v, %v", l.flight, units, marks)
			}
		}
	}
	for _, o := range someOuts(7, 500) {
		units, marks := impl.DatEnd(o)
		var wanted []int
		for at, s := range o.Flight {
			if at == 0 || o.Flight[at-1].Mark != s.Mark {
				wanted = append(wanted, s.Mark)
			}
		}
		if !sameValue(units, o.Queue) || !slices.Equal(marks, wanted) {
			t.Fatalf("%v: %v, %v", o, units, marks)
		}
	}
}

// P23: each unit is under way or waits, all along, until it is answered.
func TestDatEndAlongTheWay(t *testing.T) {
	o := impl.DatOutOpen(4294967290, 2)
	for n := range 10 {
		o, _ = impl.DatPush(o, unitOf(n, n%2, 1+9*(n%5), n%3 == 0))
	}
	answered := 0
	for range 60 {
		o, _ = impl.DatSend(o)
		if len(o.Flight) > 0 {
			if o.Flight[0].Piece.Last {
				answered++
			}
			o, _ = impl.DatAcked(o, o.Flight[0].Piece.Tsn, nil)
		}
		units, marks := impl.DatEnd(o)
		for _, u := range units {
			marks = append(marks, u.Mark)
		}
		for at, mark := range marks {
			if mark != answered+at {
				t.Fatalf("behind %d: %v", answered, marks)
			}
		}
		if answered+len(marks) != 10 {
			t.Fatalf("behind %d: %v", answered, marks)
		}
	}
	if answered != 10 {
		t.Errorf("%d", answered)
	}
}

func TestDatOutMemory(t *testing.T) {
	chance := rand.New(rand.NewSource(8))
	for _, given := range append(someOuts(9, 300), goodOut()) {
		o, u := roomy(given), roomy(unitOf(3, 0, 20, false))
		cum, some := someAnswer(chance, o)
		gaps := roomy(some)
		checkMemory(t, "DatOutOk", func() []any {
			impl.DatOutOk(o)
			impl.DatUnitOk(u)
			return nil
		}, o, u)
		for _, u := range []impl.DatUnit{u, {}} {
			checkMemory(t, "DatPush", func() []any {
				got, _ := impl.DatPush(o, u)
				return []any{got}
			}, o, u)
		}
		checkMemory(t, "DatSend", func() []any {
			got, told := impl.DatSend(o)
			return []any{got, told}
		}, o)
		checkMemory(t, "DatAgain", func() []any {
			got, told := impl.DatAgain(o, 3)
			return []any{got, told}
		}, o)
		for _, cum := range []int{cum, onward(o.Next, -1-len(o.Flight)), -1} {
			checkMemory(t, "DatAcked", func() []any {
				got, _ := impl.DatAcked(o, cum, gaps)
				return []any{got}
			}, o, gaps)
		}
		checkMemory(t, "DatEnd", func() []any {
			units, marks := impl.DatEnd(o)
			return []any{units, marks}
		}, o)
	}
	checkMemory(t, "DatOutOpen", func() []any {
		return []any{impl.DatOutOpen(1, 2), impl.DatOutOpen(1, 2)}
	})
}
