package tests

import (
	"math"
	"math/rand"
	"slices"
	"strconv"
	"testing"

	"loop.example/trunk/impl"
)

func slowAirOk(a impl.DatAir) bool {
	if !a.Answer {
		return a.Cum == 0 && len(a.Gaps) == 0 && slowPieceOk(a.Piece, 8)
	}
	return long.has(a.Cum) && slowGapsOk(a.Gaps) && sameValue(a.Piece, impl.DatPiece{})
}

func slowPipeOk(p impl.DatPipe) bool {
	if !slowOutOk(p.Out) || !slowInOk(p.In) || p.Out.Streams != p.In.Streams || len(p.Air) > 16 || len(p.Given) > 30 || len(p.Got) > 30 {
		return false
	}
	return !slices.ContainsFunc(p.Air, func(a impl.DatAir) bool { return !slowAirOk(a) })
}

func slowPutOn(p *impl.DatPipe, list ...impl.DatAir) {
	for _, a := range list {
		if len(p.Air) < 16 {
			p.Air = append(p.Air, a)
		}
	}
}

func slowPieces(list []impl.DatPiece) []impl.DatAir {
	var out []impl.DatAir
	for _, p := range list {
		out = append(out, impl.DatAir{Piece: p})
	}
	return out
}

// slowStep is DatStep, with both sides as the slow ones have them.
func slowStep(given impl.DatPipe, e impl.DatEvent) impl.DatPipe {
	if !slowPipeOk(given) {
		return impl.DatPipe{}
	}
	p := roomy(given)
	var told []impl.DatPiece
	switch e.Kind {
	case 1:
		if len(p.Given) < 30 && len(p.Out.Queue) < 12 && slowUnitOk(e.Unit) && e.Unit.Stream < p.Out.Streams {
			p.Out.Queue = append(p.Out.Queue, e.Unit)
			p.Given = append(p.Given, e.Unit)
		}
	case 2:
		p.Out, told = slowSend(p.Out)
		slowPutOn(&p, slowPieces(told)...)
	case 3:
		p.Out, told = slowAgain(p.Out, e.At)
		slowPutOn(&p, slowPieces(told)...)
	case 4:
		cum, gaps := slowAck(p.In)
		slowPutOn(&p, impl.DatAir{Answer: true, Cum: cum, Gaps: gaps})
	case 5, 6, 7:
		if e.At >= 0 && e.At < len(p.Air) {
			slowStepAt(&p, e)
		}
	}
	return p
}

func slowStepAt(p *impl.DatPipe, e impl.DatEvent) {
	a := p.Air[e.At]
	if e.Kind == 6 {
		slowPutOn(p, a)
		return
	}
	p.Air = slices.Delete(p.Air, e.At, e.At+1)
	if e.Kind == 7 {
		return
	}
	if a.Answer {
		p.Out, _ = slowAcked(p.Out, a.Cum, a.Gaps)
		return
	}
	var units []impl.DatUnit
	p.In, units, _ = slowTake(p.In, a.Piece)
	for _, u := range units {
		if len(p.Got) < 30 {
			p.Got = append(p.Got, u)
		}
	}
}

// slowCalm is made of steps, one behind the other.
func slowCalm(p impl.DatPipe, rounds int) impl.DatPipe {
	bringAll := func() {
		for len(p.Air) > 0 {
			p = slowStep(p, impl.DatEvent{Kind: impl.DatBrings})
		}
	}
	if !slowPipeOk(p) {
		return impl.DatPipe{}
	}
	for n := 0; n < rounds && n < 100; n++ {
		bringAll()
		p = slowStep(p, impl.DatEvent{Kind: impl.DatAgains, At: 8})
		p = slowStep(p, impl.DatEvent{Kind: impl.DatSends})
		bringAll()
		p = slowStep(p, impl.DatEvent{Kind: impl.DatAnswers})
		bringAll()
	}
	return p
}

// someAir is something on the air of a pipe, often of its own numbers.
func someAir(chance *rand.Rand, p impl.DatPipe) impl.DatAir {
	if chance.Intn(2) == 0 {
		for {
			cum, gaps := someAnswer(chance, p.Out)
			if slowGapsOk(gaps) {
				return impl.DatAir{Answer: true, Cum: cum, Gaps: gaps}
			}
		}
	}
	piece := somePiece(chance, p.In, onward(p.In.Cum, chance.Intn(20)-1))
	if chance.Intn(9) == 0 {
		piece.Stream = 7
	}
	return impl.DatAir{Piece: piece}
}

// somePipe is a pipe that is ok, whose sides may know nothing of each other.
func somePipe(chance *rand.Rand) impl.DatPipe {
	p := impl.DatPipe{Out: someOut(chance), In: someIn(chance)}
	for p.In.Streams != p.Out.Streams {
		p.In = someIn(chance)
	}
	for range []int{0, 1, 3, 8, 15, 16}[chance.Intn(6)] {
		p.Air = append(p.Air, someAir(chance, p))
	}
	for range []int{0, 2, 29, 30}[chance.Intn(4)] {
		p.Given = append(p.Given, unitOf(chance.Intn(9), 0, chance.Intn(60), false))
	}
	for range []int{0, 2, 28, 29, 30}[chance.Intn(5)] {
		p.Got = append(p.Got, unitOf(chance.Intn(9), 0, chance.Intn(60), true))
	}
	return p
}

func somePipes(seed int64, count int) []impl.DatPipe {
	chance := rand.New(rand.NewSource(seed))
	var out []impl.DatPipe
	for range count {
		out = append(out, somePipe(chance))
	}
	return out
}

// someEvent is an event, often one by which something happens.
func someEvent(chance *rand.Rand, p impl.DatPipe) impl.DatEvent {
	kind := []int{1, 1, 2, 2, 3, 4, 5, 5, 5, 5, 5, 6, 7}[chance.Intn(13)]
	e := impl.DatEvent{Kind: kind, At: chance.Intn(len(p.Air)+2) - 1}
	if kind == 1 {
		e.Unit = unitOf(len(p.Given), chance.Intn(p.Out.Streams), 1+chance.Intn(48), chance.Intn(3) == 0)
	}
	return e
}

// walk lets so many events happen, each held against the slow pipe, with all that is said of a pipe whatever happens.
func walk(t *testing.T, chance *rand.Rand, p impl.DatPipe, steps int) impl.DatPipe {
	t.Helper()
	for range steps {
		e := someEvent(chance, p)
		next := impl.DatStep(p, e)
		if want := slowStep(p, e); !sameValue(next, want) {
			t.Fatalf("%v of %v: %v, want %v", p, e, next, want)
		}
		p = next
		checkGot(t, p)
	}
	return p
}

// checkGot is P19: stream by stream what was got is a beginning of what was given; none that is loose was got more often than given.
func checkGot(t *testing.T, p impl.DatPipe) {
	t.Helper()
	checkBeginning(t, p.Given, p.Got)
	if !impl.DatPipeOk(p) || !slowPipeOk(p) {
		t.Fatalf("%v is not ok", p)
	}
}

// checkBeginning says whether what was got is, stream by stream, a beginning of what was given, and of those that are loose none was got more often than given.
func checkBeginning(t *testing.T, allGiven []impl.DatUnit, allGot []impl.DatUnit) {
	t.Helper()
	given, got := map[int][]string{}, map[int][]string{}
	loose := map[string]int{}
	for _, u := range allGiven {
		if u.Loose {
			loose[strconv.Itoa(u.Stream)+string(u.Body)]++
		} else {
			given[u.Stream] = append(given[u.Stream], string(u.Body))
		}
	}
	for _, u := range allGot {
		if u.Mark != 0 {
			t.Fatalf("%v was got", u)
		}
		if u.Loose {
			loose[strconv.Itoa(u.Stream)+string(u.Body)]--
		} else {
			got[u.Stream] = append(got[u.Stream], string(u.Body))
		}
	}
	for stream, list := range got {
		if len(list) > len(given[stream]) || !slices.Equal(list, given[stream][:len(list)]) {
			t.Fatalf("in the stream %d %q was got of %q", stream, list, given[stream])
		}
	}
	for name, n := range loose {
		if n < 0 {
			t.Fatalf("%q was got more often than given", name)
		}
	}
}

// checkAllGot is P20: each was got once; then nothing is under way, nothing waits, and nothing is kept.
func checkAllGot(t *testing.T, p impl.DatPipe) {
	t.Helper()
	checkGot(t, p)
	if len(p.Got) != len(p.Given) || !sameStreams(p.Got, p.Given) {
		t.Fatalf("%v was got of %v", p.Got, p.Given)
	}
	if len(p.Air)+len(p.Out.Flight)+len(p.Out.Queue)+len(p.In.Have)+len(p.In.Seen) > 0 {
		t.Fatalf("there is something left of %v", p)
	}
}

// goodPipe has something of all.
func goodPipe() impl.DatPipe {
	return impl.DatPipe{
		Out: goodOut(), In: goodIn(),
		Air: []impl.DatAir{
			{Piece: word(3, 1, 9, "fl", 'x')}, {Answer: true, Cum: 4294967295, Gaps: []impl.FrmGap{{From: 2, To: 3}, {From: 5, To: 5}}},
			{Piece: impl.DatPiece{Tsn: 4294967295, Stream: 7, Loose: true, Body: counted(16)}}, {Answer: true},
		},
		Given: []impl.DatUnit{unitOf(1, 0, 5, false), {}}, Got: []impl.DatUnit{unitOf(0, 0, 5, false), unitOf(-5, 99, 300, true)},
	}
}

// badPipes are not ok, each in one of the ways that the document tells.
func badPipes() map[string]impl.DatPipe {
	out := map[string]impl.DatPipe{"nothing": {}, "no side at all": {Given: goodPipe().Given}}
	spoil := func(name string, turn func(p *impl.DatPipe)) {
		p := roomy(goodPipe())
		turn(&p)
		out[name] = p
	}
	for name, o := range badOuts() {
		spoil("Out: "+name, func(p *impl.DatPipe) { p.Out = o })
	}
	for name, i := range badIns() {
		spoil("In: "+name, func(p *impl.DatPipe) { p.In = i })
	}
	spoil("fewer streams out", func(p *impl.DatPipe) { p.Out = impl.DatOutOpen(0, 1) })
	spoil("more streams out", func(p *impl.DatPipe) { p.Out = impl.DatOutOpen(0, 3) })
	spoil("more streams in", func(p *impl.DatPipe) { p.In = impl.DatInOpen(0, 3) })
	spoil("seventeen on the air", func(p *impl.DatPipe) { p.Air = slices.Repeat(p.Air[:1], 17) })
	spoil("thirty-one given", func(p *impl.DatPipe) { p.Given = slices.Repeat(p.Given[:1], 31) })
	spoil("thirty-one got", func(p *impl.DatPipe) { p.Got = slices.Repeat(p.Got[:1], 31) })
	spoil("nothing on the air", func(p *impl.DatPipe) { p.Air[3] = impl.DatAir{} })
	spoil("a piece with Cum", func(p *impl.DatPipe) { p.Air[2].Cum = 1 })
	spoil("a piece with gaps", func(p *impl.DatPipe) { p.Air[2].Gaps = []impl.FrmGap{{From: 2, To: 2}} })
	for _, n := range []int{-1, 4294967296, math.MinInt, math.MaxInt} {
		spoil("a piece with the number "+strconv.Itoa(n), func(p *impl.DatPipe) { p.Air[0].Piece.Tsn = n })
		spoil("an answer up to "+strconv.Itoa(n), func(p *impl.DatPipe) { p.Air[1].Cum = n })
		spoil("a piece of the stream "+strconv.Itoa(n), func(p *impl.DatPipe) { p.Air[0].Piece.Stream = n })
	}
	spoil("a piece of the stream 8", func(p *impl.DatPipe) { p.Air[0].Piece.Stream = 8 })
	spoil("a piece with the Ssn -1", func(p *impl.DatPipe) { p.Air[0].Piece.Ssn = -1 })
	spoil("a piece with the Ssn 65536", func(p *impl.DatPipe) { p.Air[0].Piece.Ssn = 65536 })
	spoil("a loose piece with an Ssn", func(p *impl.DatPipe) { p.Air[2].Piece.Ssn = 1 })
	spoil("a piece without bytes", func(p *impl.DatPipe) { p.Air[2].Piece.Body = nil })
	spoil("a piece of 17 bytes", func(p *impl.DatPipe) { p.Air[2].Piece.Body = counted(17) })
	for at, gaps := range badGaps {
		spoil("bad gaps "+strconv.Itoa(at), func(p *impl.DatPipe) { p.Air[3].Gaps = gaps })
	}
	spoil("an answer with a number", func(p *impl.DatPipe) { p.Air[1].Piece.Tsn = 1 })
	spoil("an answer with a stream", func(p *impl.DatPipe) { p.Air[1].Piece.Stream = 1 })
	spoil("an answer with an Ssn", func(p *impl.DatPipe) { p.Air[1].Piece.Ssn = 1 })
	spoil("an answer that is First", func(p *impl.DatPipe) { p.Air[1].Piece.First = true })
	spoil("an answer that is Last", func(p *impl.DatPipe) { p.Air[1].Piece.Last = true })
	spoil("an answer that is Loose", func(p *impl.DatPipe) { p.Air[1].Piece.Loose = true })
	spoil("an answer with a body", func(p *impl.DatPipe) { p.Air[1].Piece.Body = []byte{0} })
	spoil("an answer with a piece", func(p *impl.DatPipe) { p.Air[1].Piece = p.Air[0].Piece })
	spoil("a piece that is an answer", func(p *impl.DatPipe) { p.Air[0].Answer = true })
	return out
}

func TestDatPipeOpen(t *testing.T) {
	for _, tsn := range append([]int{5}, wide...) {
		for _, streams := range []int{math.MinInt, -1, 0, 1, 2, 7, 8, 9, math.MaxInt} {
			got := impl.DatPipeOpen(tsn, streams)
			want := impl.DatPipe{}
			if long.has(tsn) && streams >= 1 && streams <= 8 {
				ssns := []int{0, 0, 0, 0, 0, 0, 0, 0}[:streams]
				want.Out = impl.DatOut{Streams: streams, Next: tsn, Ssns: ssns}
				want.In = impl.DatIn{Streams: streams, Cum: onward(tsn, -1), Ssns: ssns}
			}
			if !sameValue(got, want) || impl.DatPipeOk(got) != (want.Out.Streams > 0) {
				t.Errorf("%d, %d: %v, want %v", tsn, streams, got, want)
			}
		}
	}
}

func TestDatPipeOkOfGoodPipes(t *testing.T) {
	good := []impl.DatPipe{goodPipe(), impl.DatPipeOpen(0, 1), impl.DatPipeOpen(4294967295, 8)}
	p := goodPipe()
	p.Air = slices.Repeat(p.Air, 4)
	p.Given, p.Got = slices.Repeat(p.Given, 15), slices.Repeat(p.Got, 15)
	good = append(good, p)
	for _, gaps := range someGaps {
		p := goodPipe()
		p.Air[3].Gaps, p.Air[3].Piece.Body = gaps, []byte{}
		good = append(good, p)
	}
	for _, p := range append(good, somePipes(21, 300)...) {
		if !slowPipeOk(p) || !impl.DatPipeOk(p) {
			t.Fatalf("%v is not ok", p)
		}
	}
}

func TestDatRefusesPipesThatAreNotOk(t *testing.T) {
	for name, p := range badPipes() {
		if slowPipeOk(p) || impl.DatPipeOk(p) {
			t.Errorf("%s: it is ok", name)
		}
		for kind := -1; kind <= 9; kind++ {
			if got := impl.DatStep(p, impl.DatEvent{Kind: kind, Unit: unitOf(1, 0, 1, false)}); !sameValue(got, impl.DatPipe{}) {
				t.Errorf("%s, %d: %v", name, kind, got)
			}
		}
		for _, rounds := range []int{-1, 0, 1} {
			if got := impl.DatCalm(p, rounds); !sameValue(got, impl.DatPipe{}) {
				t.Errorf("%s, %d rounds: %v", name, rounds, got)
			}
		}
	}
}

func TestDatStepOfWhatIsNothing(t *testing.T) {
	for _, p := range append(somePipes(22, 100), goodPipe(), impl.DatPipeOpen(1, 1)) {
		for _, kind := range []int{math.MinInt, -1, 0, 8, 9, math.MaxInt} {
			if got := impl.DatStep(p, impl.DatEvent{Kind: kind, Unit: unitOf(1, 0, 1, false)}); !sameValue(got, p) {
				t.Fatalf("%v, %d: %v", p, kind, got)
			}
		}
		for _, kind := range []int{impl.DatBrings, impl.DatDoubles, impl.DatLoses} {
			for _, at := range []int{math.MinInt, -1, len(p.Air), len(p.Air) + 1, math.MaxInt} {
				if got := impl.DatStep(p, impl.DatEvent{Kind: kind, At: at}); !sameValue(got, p) {
					t.Fatalf("%v, %d at %d: %v", p, kind, at, got)
				}
			}
		}
	}
}

// Where a kind has no place, At does not matter.
func TestDatStepWithoutAPlace(t *testing.T) {
	for _, p := range append(somePipes(23, 100), impl.DatPipeOpen(1, 1)) {
		for _, kind := range []int{impl.DatPushes, impl.DatSends, impl.DatAnswers} {
			e := impl.DatEvent{Kind: kind, Unit: unitOf(4, 0, 9, false)}
			want := impl.DatStep(p, e)
			for _, at := range []int{math.MinInt, -1, len(p.Air), math.MaxInt} {
				e.At = at
				if got := impl.DatStep(p, e); !sameValue(got, want) {
					t.Fatalf("%v of %v: %v, want %v", p, e, got, want)
				}
			}
		}
	}
}

func TestDatStepOfManyPipes(t *testing.T) {
	for _, p := range somePipes(24, 300) {
		for kind := 0; kind <= 8; kind++ {
			for n, at := range []int{-1, 0, 1, 4, 8, len(p.Air) / 2, len(p.Air) - 1, len(p.Air)} {
				e := impl.DatEvent{Kind: kind, At: at, Unit: unitOf(1000000, p.Out.Streams-n%2, 48, n%3 == 0)}
				got := impl.DatStep(p, e)
				if want := slowStep(p, e); !sameValue(got, want) || !impl.DatPipeOk(got) {
					t.Fatalf("%v of %v: %v, want %v", p, e, got, want)
				}
			}
		}
	}
}

// Told by hand: a piece is lost, what is behind the hole is kept, the window shuts, and all comes when it is said again.
func TestDatStepAlongTheWay(t *testing.T) {
	p := impl.DatPipeOpen(4294967293, 1)
	do := func(kind int, at int) {
		t.Helper()
		p = impl.DatStep(p, impl.DatEvent{Kind: kind, At: at})
	}
	is := func(air int, flight int, queue int, have int, got int) {
		t.Helper()
		if len(p.Air) != air || len(p.Out.Flight) != flight || len(p.Out.Queue) != queue || len(p.In.Have) != have || len(p.Got) != got {
			t.Fatalf("%v", p)
		}
	}
	for n := range 5 {
		p = impl.DatStep(p, impl.DatEvent{Kind: impl.DatPushes, Unit: unitOf(n, 0, 40, false)})
	}
	is(0, 0, 5, 0, 0)
	do(impl.DatSends, 0)
	is(6, 6, 3, 0, 0)
	do(impl.DatLoses, 1)
	is(5, 6, 3, 0, 0)
	for range 5 {
		do(impl.DatBrings, 0)
	}
	is(0, 6, 3, 5, 0)
	do(impl.DatAnswers, 0)
	if !sameValue(p.Air, []impl.DatAir{{Answer: true, Cum: 4294967293, Gaps: []impl.FrmGap{{From: 2, To: 5}}}}) {
		t.Fatalf("%v", p.Air)
	}
	do(impl.DatBrings, 0)
	// One piece is missing; the four behind it have come, and there is no room for three.
	is(0, 5, 3, 5, 0)
	do(impl.DatSends, 0)
	is(3, 8, 2, 5, 0)
	do(impl.DatSends, 0)
	is(3, 8, 2, 5, 0)
	do(impl.DatAgains, 1)
	is(4, 8, 2, 5, 0)
	if p.Air[3].Piece.Tsn != 4294967294 || p.Out.Flight[0].Times != 2 {
		t.Fatalf("%v", p)
	}
	do(impl.DatDoubles, 3)
	is(5, 8, 2, 5, 0)
	do(impl.DatBrings, 3)
	is(4, 8, 2, 0, 2)
	do(impl.DatBrings, 3)
	is(3, 8, 2, 0, 2)
	do(impl.DatAnswers, 0)
	do(impl.DatBrings, 3)
	is(3, 3, 2, 0, 2)
	if p.In.Cum != 2 || p.Out.Flight[0].Piece.Tsn != 3 {
		t.Fatalf("%v", p)
	}
	do(impl.DatBrings, 2)
	do(impl.DatBrings, 0)
	do(impl.DatBrings, 0)
	is(0, 3, 2, 0, 3)
	for at := range p.Got {
		if want := unitOf(at, 0, 40, false); !slices.Equal(p.Got[at].Body, want.Body) {
			t.Errorf("%v", p.Got[at])
		}
	}
}

// DatMaxAir: what finds no room is lost.
func TestDatStepOnAFullAir(t *testing.T) {
	p := impl.DatPipeOpen(4294967290, 1)
	for n := range 12 {
		p = impl.DatStep(p, impl.DatEvent{Kind: impl.DatPushes, Unit: unitOf(n, 0, 1, false)})
	}
	for range 20 {
		p = impl.DatStep(p, impl.DatEvent{Kind: impl.DatAnswers})
	}
	if len(p.Air) != 16 {
		t.Fatalf("%v", p.Air)
	}
	full := impl.DatStep(p, impl.DatEvent{Kind: impl.DatSends})
	if len(full.Air) != 16 || len(full.Out.Flight) != 8 || !sameValue(full.Air, p.Air) {
		t.Fatalf("%v", full)
	}
	if again := impl.DatStep(full, impl.DatEvent{Kind: impl.DatAgains, At: 3}); !sameValue(again.Air, p.Air) || again.Out.Flight[2].Times != 2 || again.Out.Flight[3].Times != 1 {
		t.Fatalf("%v", again)
	}
	if double := impl.DatStep(p, impl.DatEvent{Kind: impl.DatDoubles, At: 4}); !sameValue(double, p) {
		t.Fatalf("%v", double)
	}
	p = impl.DatStep(p, impl.DatEvent{Kind: impl.DatLoses, At: 15})
	p = impl.DatStep(p, impl.DatEvent{Kind: impl.DatLoses, At: 0})
	p = impl.DatStep(p, impl.DatEvent{Kind: impl.DatLoses, At: 7})
	p = impl.DatStep(p, impl.DatEvent{Kind: impl.DatSends})
	var tsns []int
	for _, a := range p.Air[13:] {
		tsns = append(tsns, a.Piece.Tsn)
	}
	if len(p.Air) != 16 || len(p.Out.Flight) != 8 || !slices.Equal(tsns, []int{4294967290, 4294967291, 4294967292}) {
		t.Fatalf("%v", p)
	}
}

// DatMaxLog: no more are given, and no more are told.
func TestDatStepOnFullLogs(t *testing.T) {
	p := impl.DatPipeOpen(4294967290, 2)
	for n := range 33 {
		before := p
		u := unitOf(n, n%2, 1+n, n%5 == 0)
		p = impl.DatStep(p, impl.DatEvent{Kind: impl.DatPushes, Unit: u})
		if n < 30 && (len(p.Given) != n+1 || !sameValue(p.Given[n], u)) || n >= 30 && !sameValue(p, before) {
			t.Fatalf("the unit %d: %v", n, p)
		}
		if n%6 == 5 {
			p = impl.DatCalm(p, 4)
		}
	}
	checkAllGot(t, p)
	// Two units become whole with one piece.
	for _, got := range []int{27, 28, 29, 30} {
		p := impl.DatPipeOpen(1, 1)
		p.In.Seen, p.In.Have = []int{2}, []impl.DatPiece{word(2, 0, 1, "fl", 'y')}
		p.Got = slices.Repeat([]impl.DatUnit{unitOf(0, 0, 3, false)}, got)
		p.Air = []impl.DatAir{{Piece: word(1, 0, 0, "fl", 'x')}}
		p = impl.DatStep(p, impl.DatEvent{Kind: impl.DatBrings})
		told := ""
		for _, u := range p.Got[got:] {
			told += string(u.Body)
		}
		if told != "xy"[:min(2, 30-got)] || p.In.Cum != 2 || len(p.In.Have) != 0 || p.In.Ssns[0] != 2 {
			t.Fatalf("behind %d: %v", got, p)
		}
	}
}

// A push with a code is given to nobody.
func TestDatStepOfPushesInVain(t *testing.T) {
	p := impl.DatPipeOpen(9, 2)
	for _, u := range []impl.DatUnit{{}, unitOf(1, 2, 1, false), unitOf(-1, 0, 1, false), unitOf(1, 0, 49, false)} {
		if got := impl.DatStep(p, impl.DatEvent{Kind: impl.DatPushes, Unit: u}); !sameValue(got, p) {
			t.Errorf("%v: %v", u, got)
		}
	}
	for n := range 12 {
		p = impl.DatStep(p, impl.DatEvent{Kind: impl.DatPushes, Unit: unitOf(n, 0, 1, false)})
	}
	if got := impl.DatStep(p, impl.DatEvent{Kind: impl.DatPushes, Unit: unitOf(1, 0, 1, false)}); len(p.Given) != 12 || !sameValue(got, p) {
		t.Errorf("%v", got)
	}
}

// What a side refuses is taken from the air, and nothing else happens.
func TestDatStepBringsInVain(t *testing.T) {
	for _, p := range somePipes(25, 300) {
		bad := []impl.DatAir{
			{Piece: word(p.In.Cum, 0, 0, "fl", 'x')}, {Piece: word(onward(p.In.Cum, 17), 0, 0, "fl", 'x')}, {Answer: true, Cum: p.Out.Next},
			{Answer: true, Cum: onward(p.Out.Next, -2-len(p.Out.Flight))}, {Answer: true, Cum: onward(p.Out.Next, -1), Gaps: []impl.FrmGap{{From: 2, To: 2}}},
		}
		if p.In.Streams < 8 {
			bad = append(bad, impl.DatAir{Piece: word(onward(p.In.Cum, 1), p.In.Streams, 0, "fl", 'x')})
		}
		for _, a := range bad {
			with := roomy(p)
			with.Air = append(with.Air[:min(len(with.Air), 15)], a)
			want := with
			want.Air = with.Air[:len(with.Air)-1]
			if got := impl.DatStep(with, impl.DatEvent{Kind: impl.DatBrings, At: len(with.Air) - 1}); !sameValue(got, want) {
				t.Fatalf("%v: %v", with, got)
			}
		}
	}
}

// P19 and P20, from each number on, whatever happens.
func TestDatPipeWhateverHappens(t *testing.T) {
	chance := rand.New(rand.NewSource(26))
	for round := range 300 {
		tsn := []int{0, 5, 4294967295, 4294967280, 4294967200 + chance.Intn(96), 2147483640 + chance.Intn(16)}[chance.Intn(6)]
		p := impl.DatPipeOpen(tsn, []int{1, 2, 3, 8}[round%4])
		p = walk(t, chance, p, 40+chance.Intn(150))
		calm := impl.DatCalm(p, 24)
		checkAllGot(t, calm)
		if !sameValue(calm.Given, p.Given) {
			t.Fatalf("%v was given, behind the calm %v", p.Given, calm.Given)
		}
		if more := impl.DatCalm(calm, 3); !sameValue(more, calm) {
			t.Fatalf("%v goes on: %v", calm, more)
		}
	}
}

// P20 where most is to be said: what waits is as much as can be, and all that is under way was lost.
func TestDatCalmOfMuch(t *testing.T) {
	for _, size := range []int{1, 16, 17, 33, 48} {
		for _, tsn := range nexts {
			p := impl.DatPipeOpen(tsn, 3)
			push := func() {
				for range 12 {
					p = impl.DatStep(p, impl.DatEvent{Kind: impl.DatPushes, Unit: unitOf(len(p.Given), len(p.Given)%3, size, len(p.Given)%4 == 3)})
				}
			}
			push()
			p = impl.DatStep(p, impl.DatEvent{Kind: impl.DatSends})
			for len(p.Air) > 0 {
				p = impl.DatStep(p, impl.DatEvent{Kind: impl.DatLoses})
			}
			push()
			checkAllGot(t, impl.DatCalm(p, 24))
			// Late words, and full air, hold nothing up.
			for range 16 {
				p = impl.DatStep(p, impl.DatEvent{Kind: impl.DatAnswers})
			}
			checkAllGot(t, impl.DatCalm(p, 24))
		}
	}
}

func TestDatCalmOfManyPipes(t *testing.T) {
	for _, p := range somePipes(27, 200) {
		for _, rounds := range []int{math.MinInt, -1, 0, 1, 2, 3} {
			got := impl.DatCalm(p, rounds)
			if want := slowCalm(p, rounds); !sameValue(got, want) || !impl.DatPipeOk(got) {
				t.Fatalf("%v, %d rounds: %v, want %v", p, rounds, got, want)
			}
		}
	}
}

// deaf is a pipe whose pieces never come: each round of calm shows in how often one was said.
func deaf() impl.DatPipe {
	p := impl.DatPipeOpen(5, 1)
	p.In.Cum = 1000
	p.Out.Next, p.Out.Flight = 6, flightOf(6, 1)
	return p
}

func TestDatCalmOfRounds(t *testing.T) {
	for rounds, want := range map[int]int{math.MinInt: 0, -1: 0, 0: 0, 1: 1, 7: 7, 99: 99, 100: 100, 101: 100, 1000: 100, math.MaxInt: 100} {
		p := deaf()
		got := impl.DatCalm(p, rounds)
		p.Out.Flight[0].Times += want
		if !sameValue(got, p) {
			t.Errorf("%d rounds: %v", rounds, got)
		}
	}
}

// P60: a calm may be had in parts.
func TestDatCalmInParts(t *testing.T) {
	chance := rand.New(rand.NewSource(28))
	for _, l := range [][2]int{{0, 0}, {0, 100}, {100, 0}, {1, 99}, {50, 50}, {33, 60}} {
		p := deaf()
		if got, want := impl.DatCalm(impl.DatCalm(p, l[0]), l[1]), impl.DatCalm(p, l[0]+l[1]); !sameValue(got, want) || got.Out.Flight[0].Times != 1+l[0]+l[1] {
			t.Errorf("%v: %v, want %v", l, got, want)
		}
	}
	pipes := somePipes(29, 100)
	for range 100 {
		p := impl.DatPipeOpen(4294967280+chance.Intn(16), 2)
		pipes = append(pipes, walk(t, chance, p, 60))
	}
	for _, p := range pipes {
		for a := range 4 {
			for b := range 4 {
				got, want := impl.DatCalm(impl.DatCalm(p, a), b), impl.DatCalm(p, a+b)
				if !sameValue(got, want) {
					t.Fatalf("%v, %d and %d: %v, want %v", p, a, b, got, want)
				}
			}
		}
	}
}

// One round, told by hand: what is on the air ahead of it is brought first, then what was not answered is said ahead of what waits.
func TestDatCalmOfOneRound(t *testing.T) {
	p := impl.DatPipeOpen(4294967295, 1)
	p.Got = slices.Repeat([]impl.DatUnit{{Body: []byte{0}}}, 27)
	for n := range 4 {
		p = impl.DatStep(p, impl.DatEvent{Kind: impl.DatPushes, Unit: unitOf(n, 0, 48, false)})
	}
	p = impl.DatStep(p, impl.DatEvent{Kind: impl.DatSends})
	p = impl.DatStep(p, impl.DatEvent{Kind: impl.DatBrings, At: 2})
	p = impl.DatStep(p, impl.DatEvent{Kind: impl.DatAnswers})
	p = impl.DatStep(p, impl.DatEvent{Kind: impl.DatLoses, At: 3})
	got := impl.DatCalm(p, 1)
	// The fifth of six pieces was lost, and comes when it is said again; six leave no room for what waits until they are answered at the end.
	if len(got.Got) != 29 || len(got.Out.Flight) != 0 || len(got.Out.Queue) != 2 || got.In.Cum != 4 || len(got.Air) != 0 {
		t.Fatalf("%v", got)
	}
	got = impl.DatCalm(got, 1)
	if len(got.Got) != 30 || len(got.Out.Flight) != 0 || len(got.Out.Queue) != 0 || got.In.Cum != 10 {
		t.Fatalf("%v", got)
	}
	// The answer goes over in the same round, so that in the next one there is room.
	p = impl.DatPipeOpen(0, 1)
	for n := range 9 {
		p = impl.DatStep(p, impl.DatEvent{Kind: impl.DatPushes, Unit: unitOf(n, 0, 16, false)})
	}
	p = impl.DatCalm(p, 1)
	if len(p.Got) != 8 || len(p.Out.Flight) != 0 || len(p.Out.Queue) != 1 {
		t.Fatalf("%v", p)
	}
}

func TestDatPipeMemory(t *testing.T) {
	for _, given := range append(somePipes(30, 60), goodPipe()) {
		p := roomy(given)
		for kind := 0; kind <= 8; kind++ {
			for _, at := range []int{-1, 0, 1, len(p.Air) - 1} {
				e := impl.DatEvent{Kind: kind, At: at, Unit: roomy(unitOf(1, 0, 20, false))}
				checkMemory(t, "DatStep", func() []any {
					return []any{impl.DatStep(p, e)}
				}, p, e)
			}
		}
		for _, rounds := range []int{-1, 0, 1, 2} {
			checkMemory(t, "DatCalm", func() []any {
				return []any{impl.DatCalm(p, rounds)}
			}, p)
		}
		checkMemory(t, "DatPipeOk", func() []any {
			impl.DatPipeOk(p)
			return nil
		}, p)
	}
	checkMemory(t, "DatPipeOpen", func() []any {
		return []any{impl.DatPipeOpen(1, 2), impl.DatPipeOpen(1, 2)}
	})
}
