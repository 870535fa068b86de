package tests

import (
	"math"
	"slices"
	"strconv"
	"testing"

	"loop.example/trunk/impl"
)

// slowWorld is a world that does what the document tells, sentence by sentence; of ends, books and messages the functions of their chapters are asked.
type slowWorld struct{ impl.TrunkWorld }

func slowWorldOk(w impl.TrunkWorld) bool {
	var gates, hosts []int
	for _, g := range w.Gates {
		gates = append(gates, g.Name)
	}
	for _, h := range w.Hosts {
		hosts = append(hosts, h.Name)
	}
	if len(gates) == 0 || !rising(gates, 1, 999, 2) || !rising(hosts, 1, 999, 3) || w.Now < 0 || w.Now > 1000000 {
		return false
	}
	for _, g := range w.Gates {
		if !slowGateOk(g) || !sameValue(g.Book.Keys, w.Gates[0].Book.Keys) || len(g.Book.Servers) != len(hosts) || slices.Contains(hosts, g.Name) {
			return false
		}
		for at, s := range g.Book.Servers {
			if s.Server != hosts[at] {
				return false
			}
		}
	}
	for _, h := range w.Hosts {
		if !slowHostOk(h) || len(h.Book.Gates) != len(gates) {
			return false
		}
		for at, g := range h.Book.Gates {
			if g.Gate != gates[at] {
				return false
			}
		}
	}
	for _, a := range w.Air {
		if a.From < 0 || a.From > 1999 || a.To < 0 || a.To > 1999 || len(a.Bytes) > 700 {
			return false
		}
	}
	for at, given := range w.Given {
		if !slices.Contains(gates, given.Gate) || !slowSrvUnitOk(given.Unit) || given.Unit.Mark != at+1 {
			return false
		}
	}
	return len(w.Air) <= 40 && len(w.Given) <= 24 && len(w.Got) <= 72 && len(w.Drops) <= 72
}

// goes lets go out what goes out of an end.
func (s *slowWorld) goes(e impl.TrunkEnd, sends []impl.TrunkSend) {
	for _, send := range sends {
		s.flies(impl.TrunkAir{From: 2*e.Line.Me + send.Way, To: 2*e.Line.Peer + send.Way, Bytes: send.Bytes})
	}
}

func (s *slowWorld) flies(a impl.TrunkAir) {
	if len(s.Air) < 40 {
		s.Air = append(s.Air, roomy(a))
	}
}

func (s *slowWorld) drops(mark int, why int) {
	if mark > 0 && len(s.Drops) < 72 {
		s.Drops = append(s.Drops, impl.SrvDrop{Mark: mark, Why: why})
	}
}

func (s *slowWorld) gateSays(g *impl.TrunkGate, says []impl.SrvSay) {
	for _, say := range says {
		for at := range g.Ends {
			if g.Ends[at].Line.Peer == say.Server {
				s.gateSaysOne(g, at, say.Word)
			}
		}
	}
}

func (s *slowWorld) gateSaysOne(g *impl.TrunkGate, at int, w impl.MsgWord) {
	e := &g.Ends[at]
	if e.Line.State != 3 {
		if w.Kind == 10 {
			s.drops(w.Num, 6)
		}
		return
	}
	u := impl.DatUnit{Body: impl.MsgWrite(w)}
	if w.Kind == 10 {
		if len(e.Out.Queue) >= 6 {
			s.drops(w.Num, 7)
			return
		}
		u.Mark, u.Stream = w.Num, impl.KeyStream(w.Sls, e.Line.Streams)
	}
	next, sends, code := impl.TrunkPush(*e, u)
	if code == 0 {
		*e = next
		s.goes(next, sends)
	} else if w.Kind == 10 {
		s.drops(w.Num, 7)
	} else {
		s.gateShuts(g, at, true)
	}
}

func (s *slowWorld) gateShuts(g *impl.TrunkGate, at int, hard bool) {
	was := g.Ends[at]
	next, sends, code := impl.TrunkClose(was, hard)
	if code != 0 {
		return
	}
	g.Ends[at] = next
	s.goes(next, sends)
	s.epochLost(g, was)
}

func (s *slowWorld) epochLost(g *impl.TrunkGate, was impl.TrunkEnd) {
	units, marks := impl.DatEnd(was.Out)
	for _, mark := range marks {
		s.drops(mark, 6)
	}
	book, says := impl.SrvGone(g.Book, was.Line.Peer)
	s.turns(g, book, says, units)
}

func (s *slowWorld) turns(g *impl.TrunkGate, book impl.SrvBook, says []impl.SrvSay, unsaid []impl.DatUnit) {
	old := g.Book
	g.Book = book
	s.gateSays(g, says)
	for _, row := range book.Keys {
		var these []impl.SrvUnit
		for _, u := range unsaid {
			if unit, is := unitOfRange(u, row.Ctx); is {
				these = append(these, unit)
			}
		}
		if row.Mode == 3 {
			for _, u := range these {
				s.drops(u.Mark, 6)
			}
			continue
		}
		if len(these) == 0 && slices.Equal(activeFor(old, row.Ctx), activeFor(book, row.Ctx)) {
			continue
		}
		for at := range g.Ends {
			var left []impl.DatUnit
			for _, u := range g.Ends[at].Out.Queue {
				if unit, is := unitOfRange(u, row.Ctx); is {
					these = append(these, unit)
				} else {
					left = append(left, u)
				}
			}
			g.Ends[at].Out.Queue = left
		}
		for mark := range 25 {
			for _, u := range these {
				if u.Mark == mark {
					s.given(g, u)
				}
			}
		}
	}
}

// unitOfRange is a unit that waits for a line, if it is one of a range.
func unitOfRange(u impl.DatUnit, ctx int) (impl.SrvUnit, bool) {
	w, code := impl.MsgRead(u.Body)
	return impl.SrvUnit{Mark: w.Num, Dest: w.Dest, Sls: w.Sls, Body: w.Body}, code == 0 && w.Kind == 10 && w.Ctx == ctx
}

func (s *slowWorld) given(g *impl.TrunkGate, u impl.SrvUnit) {
	book, says, why := impl.SrvGive(g.Book, u)
	g.Book = book
	if why != 0 {
		s.drops(u.Mark, why)
		return
	}
	s.gateSays(g, says)
}

func (s *slowWorld) hostSays(h *impl.TrunkHost, at int, words []impl.MsgWord) {
	for _, w := range words {
		if h.Ends[at].Line.State != 3 {
			return
		}
		next, sends, code := impl.TrunkPush(h.Ends[at], impl.DatUnit{Body: impl.MsgWrite(w)})
		if code != 0 {
			s.hostShuts(h, at, true)
			return
		}
		h.Ends[at] = next
		s.goes(next, sends)
	}
}

func (s *slowWorld) hostShuts(h *impl.TrunkHost, at int, hard bool) {
	next, sends, code := impl.TrunkClose(h.Ends[at], hard)
	if code != 0 {
		return
	}
	h.Book = impl.AspGone(h.Book, next.Line.Peer)
	h.Ends[at] = next
	s.goes(next, sends)
}

// nodeAt is the node at a place: one of both is none.
func (s *slowWorld) nodeAt(at int) (*impl.TrunkGate, *impl.TrunkHost) {
	switch {
	case at < 0 || at >= len(s.Gates)+len(s.Hosts):
		return nil, nil
	case at < len(s.Gates):
		return &s.Gates[at], nil
	}
	return nil, &s.Hosts[at-len(s.Gates)]
}

func (s *slowWorld) brings(a impl.TrunkAir) {
	for i := range s.Gates {
		for at, e := range s.Gates[i].Ends {
			if g := &s.Gates[i]; g.Up && a.To/2 == g.Name && a.From/2 == e.Line.Peer {
				s.gateHears(g, at, a)
				return
			}
		}
	}
	for i := range s.Hosts {
		for at, e := range s.Hosts[i].Ends {
			if h := &s.Hosts[i]; h.Up && a.To/2 == h.Name && a.From/2 == e.Line.Peer {
				s.hostHears(h, at, a)
				return
			}
		}
	}
}

func (s *slowWorld) gateHears(g *impl.TrunkGate, at int, a impl.TrunkAir) {
	if g.Tags == 1000000 {
		return
	}
	g.Tags++
	was := g.Ends[at]
	next, sends, units, happened := impl.TrunkHear(was, a.To%2, a.Bytes, s.Now, g.Tags, onward(4294967290, g.Tags))
	g.Ends[at] = next
	s.goes(next, sends)
	if happened == 2 || happened == 3 || happened == 4 {
		s.epochLost(g, was)
	}
	for _, u := range units {
		if g.Ends[at].Line.State != 3 {
			return
		}
		if w, code := impl.MsgRead(u.Body); code == 0 {
			book, says := impl.SrvHear(g.Book, next.Line.Peer, w)
			s.turns(g, book, says, nil)
		}
	}
}

func (s *slowWorld) hostHears(h *impl.TrunkHost, at int, a impl.TrunkAir) {
	if h.Tags == 1000000 {
		return
	}
	h.Tags++
	next, sends, units, happened := impl.TrunkHear(h.Ends[at], a.To%2, a.Bytes, s.Now, h.Tags, onward(4294967290, h.Tags))
	h.Ends[at] = next
	s.goes(next, sends)
	gate := next.Line.Peer
	var words []impl.MsgWord
	switch happened {
	case 1, 2:
		h.Book, words = impl.AspRise(h.Book, gate)
		s.hostSays(h, at, words)
	case 3, 4:
		h.Book = impl.AspGone(h.Book, gate)
	}
	for _, u := range units {
		if h.Ends[at].Line.State != 3 {
			return
		}
		w, code := impl.MsgRead(u.Body)
		if code != 0 {
			continue
		}
		var got []impl.SrvUnit
		h.Book, words, got = impl.AspHear(h.Book, gate, w)
		for _, unit := range got {
			if len(s.Got) < 72 {
				s.Got = append(s.Got, impl.TrunkGot{Host: h.Name, Life: h.Falls, Gate: gate, Mark: unit.Mark, Sls: unit.Sls})
			}
		}
		s.hostSays(h, at, words)
	}
}

func (s *slowWorld) gateTicks(g *impl.TrunkGate) {
	for at := range g.Ends {
		was := g.Ends[at]
		next, sends, happened := impl.TrunkTick(was, s.Now)
		g.Ends[at] = next
		s.goes(next, sends)
		if happened == 3 {
			s.epochLost(g, was)
		}
	}
	book, says, drops := impl.SrvTick(g.Book)
	g.Book = book
	for _, d := range drops {
		s.drops(d.Mark, d.Why)
	}
	s.gateSays(g, says)
}

func (s *slowWorld) hostTicks(h *impl.TrunkHost) {
	for at := range h.Ends {
		next, sends, happened := impl.TrunkTick(h.Ends[at], s.Now)
		s.goes(next, sends)
		if happened == 3 {
			h.Book = impl.AspGone(h.Book, next.Line.Peer)
		}
		if next.Line.State == 0 && h.Tags < 1000000 {
			h.Tags++
			next, sends, _ = impl.TrunkStart(next, h.Tags, onward(4294967290, h.Tags))
			s.goes(next, sends)
		}
		h.Ends[at] = next
	}
}

func (s *slowWorld) gateFalls(g *impl.TrunkGate) {
	if !g.Up || g.Falls == 1000 {
		return
	}
	var names []int
	for _, e := range g.Ends {
		units, marks := impl.DatEnd(e.Out)
		for _, mark := range marks {
			s.drops(mark, 8)
		}
		for _, u := range units {
			s.drops(u.Mark, 8)
		}
		names = append(names, e.Line.Peer)
	}
	for _, r := range g.Book.Ranges {
		for _, u := range r.Wait {
			s.drops(u.Mark, 8)
		}
	}
	g.Up = false
	g.Falls++
	for at, name := range names {
		g.Ends[at] = impl.TrunkEndOpen(g.Name, name, 1+1000*g.Name+g.Falls, 3)
	}
	g.Book, _ = impl.SrvOpen(g.Book.Keys, names)
}

func (s *slowWorld) hostFalls(h *impl.TrunkHost) {
	if !h.Up || h.Falls == 1000 {
		return
	}
	h.Up = false
	h.Falls++
	var names []int
	for at, e := range h.Ends {
		names = append(names, e.Line.Peer)
		h.Ends[at] = impl.TrunkEndOpen(h.Name, e.Line.Peer, 1+1000*h.Name+h.Falls, 3)
	}
	h.Book, _ = impl.AspOpen(h.Book.Wish, names)
}

// forged says whether who knows nothing could have made bytes.
func forged(b []byte) bool {
	p, _, code := impl.FrmRead(b)
	if code != 0 {
		return true
	}
	c := p.Chunks[0]
	return c.Kind == 1 && c.Tag > 1000000 || c.Kind != 1 && c.Kind != 10 && p.Tag > 1000000
}

func slowWorldStep(w impl.TrunkWorld, e impl.TrunkEvent) impl.TrunkWorld {
	if !slowWorldOk(w) {
		return impl.TrunkWorld{}
	}
	s := &slowWorld{roomy(w)}
	there := e.At >= 0 && e.At < len(s.Air)
	switch {
	case e.Kind == impl.TrunkBrings && there:
		a := s.Air[e.At]
		s.Air = slices.Delete(s.Air, e.At, e.At+1)
		s.brings(a)
	case e.Kind == impl.TrunkDoubles && there:
		s.flies(s.Air[e.At])
	case e.Kind == impl.TrunkLoses && there:
		s.Air = slices.Delete(s.Air, e.At, e.At+1)
	case e.Kind == impl.TrunkClocks && s.Now < 1000000:
		s.Now++
	case e.Kind == impl.TrunkForges:
		if a := e.Air; a.From >= 0 && a.From <= 1999 && a.To >= 0 && a.To <= 1999 && len(a.Bytes) <= 700 && forged(a.Bytes) {
			s.flies(a)
		}
	default:
		g, h := s.nodeAt(e.At)
		if g != nil {
			s.atGate(g, e)
		} else if h != nil {
			s.atHost(h, e)
		}
	}
	return s.TrunkWorld
}

func (s *slowWorld) atGate(g *impl.TrunkGate, e impl.TrunkEvent) {
	if !g.Up {
		g.Up = e.Kind == impl.TrunkRises
		return
	}
	switch e.Kind {
	case impl.TrunkGives:
		u := roomy(e.Unit)
		u.Mark = len(s.Given) + 1
		if slowSrvUnitOk(u) && len(s.Given) < 24 {
			s.Given = append(s.Given, impl.TrunkGiven{Gate: g.Name, Unit: u})
			s.given(g, u)
		}
	case impl.TrunkTicks:
		s.gateTicks(g)
	case impl.TrunkFalls:
		s.gateFalls(g)
	case impl.TrunkTells:
		book, says := impl.SrvTell(g.Book, e.Word)
		g.Book = book
		s.gateSays(g, says)
	case impl.TrunkCloses:
		if e.N >= 0 && e.N < len(g.Ends) {
			s.gateShuts(g, e.N, e.Word.Num > 0)
		}
	}
}

func (s *slowWorld) atHost(h *impl.TrunkHost, e impl.TrunkEvent) {
	if !h.Up {
		h.Up = e.Kind == impl.TrunkRises
		return
	}
	switch e.Kind {
	case impl.TrunkTicks:
		s.hostTicks(h)
	case impl.TrunkFalls:
		s.hostFalls(h)
	case impl.TrunkWants:
		book, says := impl.AspWant(h.Book, e.N, e.Word.Kind == 5)
		h.Book = book
		for _, say := range says {
			at := slices.IndexFunc(h.Ends, func(end impl.TrunkEnd) bool { return end.Line.Peer == say.Server })
			s.hostSays(h, at, []impl.MsgWord{say.Word})
		}
	case impl.TrunkCloses:
		if e.N >= 0 && e.N < len(h.Ends) {
			s.hostShuts(h, e.N, e.Word.Num > 0)
		}
	}
}

func evGive(at int, dest int, sls int) impl.TrunkEvent {
	return impl.TrunkEvent{Kind: impl.TrunkGives, At: at, Unit: impl.SrvUnit{Dest: dest, Sls: sls, Body: []byte{byte(dest), byte(sls), 1, 2, 3, 4, 5, 6, 7, 8, 9, 10}}}
}

func evBring(at int) impl.TrunkEvent  { return impl.TrunkEvent{Kind: impl.TrunkBrings, At: at} }
func evDouble(at int) impl.TrunkEvent { return impl.TrunkEvent{Kind: impl.TrunkDoubles, At: at} }
func evLose(at int) impl.TrunkEvent   { return impl.TrunkEvent{Kind: impl.TrunkLoses, At: at} }
func evTick(at int) impl.TrunkEvent   { return impl.TrunkEvent{Kind: impl.TrunkTicks, At: at} }
func evClock() impl.TrunkEvent        { return impl.TrunkEvent{Kind: impl.TrunkClocks} }
func evFall(at int) impl.TrunkEvent   { return impl.TrunkEvent{Kind: impl.TrunkFalls, At: at} }
func evRise(at int) impl.TrunkEvent   { return impl.TrunkEvent{Kind: impl.TrunkRises, At: at} }

func evTell(at int, kind int, num int) impl.TrunkEvent {
	return impl.TrunkEvent{Kind: impl.TrunkTells, At: at, Word: impl.MsgWord{Kind: kind, Num: num}}
}

func evWant(at int, ctx int, want bool) impl.TrunkEvent {
	e := impl.TrunkEvent{Kind: impl.TrunkWants, At: at, N: ctx, Word: impl.MsgWord{Kind: impl.MsgIdle}}
	if want {
		e.Word.Kind = impl.MsgActive
	}
	return e
}

func evClose(at int, n int, hard bool) impl.TrunkEvent {
	e := impl.TrunkEvent{Kind: impl.TrunkCloses, At: at, N: n}
	if hard {
		e.Word.Num = 1
	}
	return e
}

func evForge(from int, to int, b []byte) impl.TrunkEvent {
	return impl.TrunkEvent{Kind: impl.TrunkForges, Air: impl.TrunkAir{From: from, To: to, Bytes: b}}
}

func happens(w impl.TrunkWorld, events ...impl.TrunkEvent) impl.TrunkWorld {
	for _, e := range events {
		w = impl.TrunkStep(w, e)
	}
	return w
}

// checkStep holds TrunkStep against the slow reading; P2: what was ok stays ok.
func checkStep(t *testing.T, w impl.TrunkWorld, events ...impl.TrunkEvent) impl.TrunkWorld {
	t.Helper()
	for _, e := range events {
		got, want := impl.TrunkStep(w, e), slowWorldStep(w, e)
		if !sameValue(got, want) {
			t.Fatalf("%v\n%v:\n%v, want\n%v", w, e, got, want)
		}
		if !impl.TrunkWorldOk(got) || !slowWorldOk(got) {
			t.Fatalf("%v\n%v:\n%v is not ok", w, e, got)
		}
		w = got
	}
	return w
}

// checkNothing says that nothing happens.
func checkNothing(t *testing.T, w impl.TrunkWorld, events ...impl.TrunkEvent) {
	t.Helper()
	for _, e := range events {
		if got := checkStep(t, w, e); !sameValue(got, w) {
			t.Errorf("%v:\n%v\nis\n%v", e, w, got)
		}
	}
}

// openWorld is a world at its beginning that must be one.
func openWorld(keys []impl.KeyRow, gates []int, hosts []impl.TrunkWish) impl.TrunkWorld {
	w, ok := impl.TrunkNew(keys, gates, hosts)
	if !ok {
		panic("no world")
	}
	return w
}

// servedWorld is one in which all have what they wish.
func servedWorld(keys []impl.KeyRow, gates []int, hosts []impl.TrunkWish) impl.TrunkWorld {
	w := impl.TrunkCalmly(openWorld(keys, gates, hosts), 5, -1)
	if !impl.TrunkServed(w) {
		panic(impl.TrunkBoard(w))
	}
	return w
}

// oneOf is a world of one gateway and some servers that all wish the one range, which has the destinations 500 to 509.
func oneOf(mode int, hosts int) impl.TrunkWorld {
	var wishes []impl.TrunkWish
	for at := range hosts {
		wishes = append(wishes, impl.TrunkWish{Name: 11 + at, Wish: []int{2}})
	}
	return servedWorld([]impl.KeyRow{{Ctx: 2, Low: 500, High: 509, Mode: mode}}, []int{1}, wishes)
}

// goodWorlds are ok, some at bounds.
func goodWorlds() map[string]impl.TrunkWorld {
	out := map[string]impl.TrunkWorld{
		"one gateway alone":     openWorld(nil, []int{999}, nil),
		"two gateways alone":    openWorld(fourKeys(), []int{1, 999}, nil),
		"at its beginning":      openWorld(fourKeys(), []int{1, 2}, []impl.TrunkWish{{Name: 3, Wish: []int{1, 2, 4, 9}}, {Name: 4}, {Name: 999}}),
		"gateways among others": openWorld(fourKeys(), []int{2, 900}, []impl.TrunkWish{{Name: 1}, {Name: 3}, {Name: 999}}),
		"busy":                  busyWorld(),
		"fallen":                fallenWorld(),
		"served":                oneOf(impl.KeyAll, 3),
	}
	for name, turn := range map[string]func(w *impl.TrunkWorld){
		"Now at AscMaxTick": func(w *impl.TrunkWorld) { w.Now = 1000000 },
		"full": func(w *impl.TrunkWorld) {
			for len(w.Air) < 40 {
				w.Air = append(w.Air, impl.TrunkAir{From: 0, To: 1999, Bytes: make([]byte, 700)}, impl.TrunkAir{From: 1999})
			}
			w.Air = w.Air[:40]
			for len(w.Given) < 24 {
				w.Given = append(w.Given, impl.TrunkGiven{Gate: 5, Unit: give(len(w.Given)+1, 999, 15)})
			}
			w.Got, w.Drops = make([]impl.TrunkGot, 72), make([]impl.SrvDrop, 72)
		},
		"odd logs": func(w *impl.TrunkWorld) {
			w.Got = []impl.TrunkGot{{Host: -1, Life: -1, Gate: math.MaxInt, Mark: -5, Sls: math.MinInt}}
			w.Drops = []impl.SrvDrop{{Mark: math.MinInt, Why: math.MaxInt}}
		},
		"no tags left": func(w *impl.TrunkWorld) {
			for at := range w.Gates {
				w.Gates[at].Tags = 1000000
			}
			for at := range w.Hosts {
				w.Hosts[at].Tags = 1000000
			}
		},
	} {
		w := roomy(out["busy"])
		turn(&w)
		out[name] = w
	}
	return out
}

// badWorlds are not ok, each in one of the ways that the document tells.
func badWorlds() map[string]impl.TrunkWorld {
	turns := map[string]func(w *impl.TrunkWorld){
		"nothing":     func(w *impl.TrunkWorld) { *w = impl.TrunkWorld{} },
		"no gateways": func(w *impl.TrunkWorld) { w.Gates = nil },
		"no gateways, and no servers": func(w *impl.TrunkWorld) {
			w.Gates, w.Hosts, w.Given = nil, nil, nil
		},
		"three gateways": func(w *impl.TrunkWorld) {
			*w = openWorld(fourKeys(), []int{1, 2}, nil)
			w.Gates = append(w.Gates, openWorld(fourKeys(), []int{3}, nil).Gates...)
		},
		"a gateway too few": func(w *impl.TrunkWorld) { w.Gates = w.Gates[:1] },
		"gateways descend": func(w *impl.TrunkWorld) {
			*w = openWorld(fourKeys(), []int{1, 2}, nil)
			w.Gates[0], w.Gates[1] = w.Gates[1], w.Gates[0]
		},
		"a gateway twice": func(w *impl.TrunkWorld) {
			*w = openWorld(fourKeys(), []int{1, 2}, nil)
			w.Gates[1] = w.Gates[0]
		},
		"other keys": func(w *impl.TrunkWorld) {
			*w = openWorld(fourKeys(), []int{1, 2}, nil)
			w.Gates[1].Book.Keys[1].High = 180
		},
		"a key less": func(w *impl.TrunkWorld) {
			*w = openWorld(fourKeys(), []int{1, 2}, nil)
			w.Gates[1].Book = openBook(fourKeys()[:3])
		},
		"another mode": func(w *impl.TrunkWorld) {
			*w = openWorld(fourKeys(), []int{1, 2}, nil)
			w.Gates[0].Book.Keys[1].Mode = impl.KeyAll
		},
		"a server too few":         func(w *impl.TrunkWorld) { w.Hosts = w.Hosts[:2] },
		"no servers":               func(w *impl.TrunkWorld) { w.Hosts = nil },
		"a server too many":        func(w *impl.TrunkWorld) { w.Hosts = append(w.Hosts, roomy(w.Hosts[2])) },
		"a server twice":           func(w *impl.TrunkWorld) { w.Hosts[1] = w.Hosts[0] },
		"servers in another order": func(w *impl.TrunkWorld) { w.Hosts[0], w.Hosts[1] = w.Hosts[1], w.Hosts[0] },
		"a server that no gateway has": func(w *impl.TrunkWorld) {
			*w = openWorld(fourKeys(), []int{1}, []impl.TrunkWish{{Name: 11}})
			w.Hosts = openWorld(fourKeys(), []int{1}, []impl.TrunkWish{{Name: 12}}).Hosts
		},
		"servers, the gateway has none": func(w *impl.TrunkWorld) {
			*w = openWorld(fourKeys(), []int{1}, []impl.TrunkWish{{Name: 11}})
			w.Gates = openWorld(fourKeys(), []int{1}, nil).Gates
		},
		"one gateway has a server less": func(w *impl.TrunkWorld) {
			*w = openWorld(fourKeys(), []int{1, 2}, []impl.TrunkWish{{Name: 11}, {Name: 12}})
			w.Gates[1] = openWorld(fourKeys(), []int{2}, []impl.TrunkWish{{Name: 11}}).Gates[0]
		},
		"a server has one gateway less": func(w *impl.TrunkWorld) {
			*w = openWorld(fourKeys(), []int{1, 2}, []impl.TrunkWish{{Name: 11}, {Name: 12}})
			w.Hosts[1] = openWorld(fourKeys(), []int{1}, []impl.TrunkWish{{Name: 12}}).Hosts[0]
		},
		"a server has one gateway more": func(w *impl.TrunkWorld) {
			*w = openWorld(fourKeys(), []int{1}, []impl.TrunkWish{{Name: 11}})
			w.Hosts = openWorld(fourKeys(), []int{1, 2}, []impl.TrunkWish{{Name: 11}}).Hosts
		},
		"a server has another gateway": func(w *impl.TrunkWorld) {
			*w = openWorld(fourKeys(), []int{1}, []impl.TrunkWish{{Name: 11}})
			w.Hosts = openWorld(fourKeys(), []int{2}, []impl.TrunkWish{{Name: 11}}).Hosts
		},
		"bytes too many":        func(w *impl.TrunkWorld) { w.Air = make([]impl.TrunkAir, 41) },
		"From below 0":          func(w *impl.TrunkWorld) { w.Air[0].From = -1 },
		"From beyond":           func(w *impl.TrunkWorld) { w.Air[0].From = 2000 },
		"To below 0":            func(w *impl.TrunkWorld) { w.Air[0].To = -1 },
		"To beyond":             func(w *impl.TrunkWorld) { w.Air[len(w.Air)-1].To = 2000 },
		"bytes too long":        func(w *impl.TrunkWorld) { w.Air[0].Bytes = make([]byte, 701) },
		"Now below 0":           func(w *impl.TrunkWorld) { w.Now = -1 },
		"Now beyond":            func(w *impl.TrunkWorld) { w.Now = 1000001 },
		"one more given":        func(w *impl.TrunkWorld) { w.Given = givenOf(5, 25) },
		"given to a server":     func(w *impl.TrunkWorld) { w.Given[0].Gate = 11 },
		"given to nobody":       func(w *impl.TrunkWorld) { w.Given[1].Gate = 0 },
		"given at place 0":      func(w *impl.TrunkWorld) { w.Given[0].Unit.Mark = 0 },
		"given with a far mark": func(w *impl.TrunkWorld) { w.Given[1].Unit.Mark = 3 },
		"two given turned around": func(w *impl.TrunkWorld) {
			w.Given[0], w.Given[1] = w.Given[1], w.Given[0]
		},
		"given to far":            func(w *impl.TrunkWorld) { w.Given[2].Unit.Dest = 1000 },
		"given by a choice below": func(w *impl.TrunkWorld) { w.Given[2].Unit.Sls = -1 },
		"given without a body":    func(w *impl.TrunkWorld) { w.Given[0].Unit.Body = nil },
		"given with a long body":  func(w *impl.TrunkWorld) { w.Given[0].Unit.Body = make([]byte, 13) },
		"one more got":            func(w *impl.TrunkWorld) { w.Got = make([]impl.TrunkGot, 73) },
		"one more dropped":        func(w *impl.TrunkWorld) { w.Drops = make([]impl.SrvDrop, 73) },
	}
	for name, g := range badGates() {
		turns["gateway: "+name] = func(w *impl.TrunkWorld) { w.Gates[0] = g }
	}
	for name, h := range badNodeHosts() {
		turns["server: "+name] = func(w *impl.TrunkWorld) { w.Hosts[1] = h }
	}
	out := map[string]impl.TrunkWorld{}
	busy := busyWorld()
	for name, turn := range turns {
		w := roomy(busy)
		turn(&w)
		out[name] = w
	}
	return out
}

// givenOf are so many units that were given to a gateway.
func givenOf(gate int, count int) []impl.TrunkGiven {
	var out []impl.TrunkGiven
	for at := range count {
		out = append(out, impl.TrunkGiven{Gate: gate, Unit: give(at+1, 999, 0)})
	}
	return out
}

func TestTrunkWorldConstants(t *testing.T) {
	got := []int{
		impl.TrunkMaxGates, impl.TrunkMaxAir, impl.TrunkMaxGiven, impl.TrunkMaxGot, impl.TrunkMaxDrops,
		impl.TrunkGives, impl.TrunkBrings, impl.TrunkDoubles, impl.TrunkLoses, impl.TrunkTicks, impl.TrunkClocks,
		impl.TrunkFalls, impl.TrunkRises, impl.TrunkTells, impl.TrunkWants, impl.TrunkCloses, impl.TrunkForges,
	}
	if want := []int{2, 40, 24, 72, 72, 1, 2, 3, 4, 5, 6, 7, 8, 9, 10, 11, 12}; !slices.Equal(got, want) {
		t.Errorf("%v, want %v", got, want)
	}
}

func TestTrunkNew(t *testing.T) {
	w, ok := impl.TrunkNew([]impl.KeyRow{{Ctx: 2, Low: 5, High: 9, Mode: impl.KeyShare}}, []int{7, 900}, []impl.TrunkWish{{Name: 8, Wish: []int{2, 9}}})
	want := impl.TrunkWorld{
		Gates: []impl.TrunkGate{{Name: 7, Up: true}, {Name: 900, Up: true}},
		Hosts: []impl.TrunkHost{{Name: 8, Up: true, Book: impl.AspBook{Wish: []int{2, 9}, Gates: []impl.AspGate{{Gate: 7}, {Gate: 900}}}}},
	}
	for at, g := range want.Gates {
		want.Gates[at].Book = impl.SrvBook{
			Keys:    []impl.KeyRow{{Ctx: 2, Low: 5, High: 9, Mode: impl.KeyShare}},
			Servers: []impl.SrvServer{{Server: 8}},
			Ranges:  []impl.SrvRange{{Ctx: 2}},
		}
		want.Gates[at].Ends = []impl.TrunkEnd{slowBare(impl.AscEnd{Me: g.Name, Peer: 8, Secret: 1000*g.Name + 1, Wish: 3})}
		want.Hosts[0].Ends = append(want.Hosts[0].Ends, slowBare(impl.AscEnd{Me: 8, Peer: g.Name, Secret: 8001, Wish: 3}))
	}
	if !ok || !sameValue(w, want) || !impl.TrunkWorldOk(w) {
		t.Errorf("%v %v, want\n%v", w, ok, want)
	}
}

// All that TrunkNew may be asked, in ok parts and others.
func TestTrunkNewOfAll(t *testing.T) {
	gates := [][]int{nil, {}, {1}, {999}, {1, 2}, {5, 999}, {1, 2, 3}, {2, 1}, {2, 2}, {0}, {0, 1}, {-1}, {1, 1000}, {1000}, {65536}, {math.MinInt}, {math.MaxInt}, make([]int, 500)}
	hosts := [][]impl.TrunkWish{
		nil, {{Name: 11}}, {{Name: 3, Wish: []int{1, 2, 4, 7}}, {Name: 999, Wish: []int{9}}}, {{Name: 11}, {Name: 12, Wish: []int{1}}, {Name: 13}},
		{{Name: 11}, {Name: 12}, {Name: 13}, {Name: 14}}, {{Name: 12}, {Name: 11}}, {{Name: 11}, {Name: 11}}, {{Name: 0}}, {{Name: -1}}, {{Name: 1000}}, {{Name: 32768}}, {{Name: 65536}},
		{{Name: math.MaxInt}}, {{Name: math.MinInt}}, {{Name: 1}, {Name: 999}}, {{Name: 2}}, {{Name: 5}},
		{{Name: 11, Wish: []int{1, 2, 3, 4, 5}}}, {{Name: 11, Wish: []int{2, 1}}}, {{Name: 11, Wish: []int{1, 1}}}, {{Name: 11, Wish: []int{0}}}, {{Name: 11}, {Name: 12, Wish: []int{10}}},
	}
	keys := goodKeys()
	for _, bad := range badKeys() {
		keys = append(keys, bad)
	}
	good := 0
	for _, names := range gates {
		for _, wishes := range hosts {
			for _, list := range keys {
				w, ok := impl.TrunkNew(list, names, wishes)
				want := slowNewOk(list, names, wishes)
				if ok != want || ok != slowWorldOk(w) || !ok && !sameValue(w, impl.TrunkWorld{}) {
					t.Fatalf("%v, %v, %v: %v %v", list, names, wishes, w, ok)
				}
				if ok {
					good++
					checkNewWorld(t, w, list, names, wishes)
				}
			}
		}
	}
	if good < 100 {
		t.Errorf("%d worlds", good)
	}
}

func slowNewOk(keys []impl.KeyRow, gates []int, hosts []impl.TrunkWish) bool {
	var names []int
	for _, h := range hosts {
		if !rising(h.Wish, 1, 9, 4) || slices.Contains(gates, h.Name) {
			return false
		}
		names = append(names, h.Name)
	}
	return slowKeyOk(keys) && len(gates) > 0 && rising(gates, 1, 999, 2) && rising(names, 1, 999, 3)
}

// checkNewWorld says that nothing has happened in a world.
func checkNewWorld(t *testing.T, w impl.TrunkWorld, keys []impl.KeyRow, gates []int, hosts []impl.TrunkWish) {
	t.Helper()
	if len(w.Gates) != len(gates) || len(w.Hosts) != len(hosts) || w.Now != 0 || len(w.Air)+len(w.Given)+len(w.Got)+len(w.Drops) > 0 {
		t.Fatalf("%v", w)
	}
	var names []int
	for at, h := range w.Hosts {
		names = append(names, hosts[at].Name)
		book, _ := impl.AspOpen(hosts[at].Wish, gates)
		if h.Name != hosts[at].Name || !h.Up || h.Tags != 0 || h.Falls != 0 || !sameValue(h.Book, book) {
			t.Fatalf("%v", h)
		}
		for i, e := range h.Ends {
			if !sameValue(e, impl.TrunkEndOpen(h.Name, gates[i], 1000*h.Name+1, 3)) {
				t.Fatalf("%v", e)
			}
		}
	}
	for at, g := range w.Gates {
		book, _ := impl.SrvOpen(keys, names)
		if g.Name != gates[at] || !g.Up || g.Tags != 0 || g.Falls != 0 || !sameValue(g.Book, book) {
			t.Fatalf("%v", g)
		}
		for i, e := range g.Ends {
			if !sameValue(e, impl.TrunkEndOpen(g.Name, names[i], 1000*g.Name+1, 3)) {
				t.Fatalf("%v", e)
			}
		}
	}
}

func TestTrunkWorldsThatAreOk(t *testing.T) {
	for name, w := range goodWorlds() {
		if !slowWorldOk(w) || !impl.TrunkWorldOk(w) {
			t.Errorf("%s: %v is not ok", name, w)
		}
	}
}

// A world that is not ok has one answer, whatever happens.
func TestTrunkStepOfWorldsThatAreNotOk(t *testing.T) {
	for name, w := range badWorlds() {
		if slowWorldOk(w) || impl.TrunkWorldOk(w) {
			t.Errorf("%s: %v is ok", name, w)
		}
		for kind := range 14 {
			if got := impl.TrunkStep(w, impl.TrunkEvent{Kind: kind}); !sameValue(got, impl.TrunkWorld{}) {
				t.Errorf("%s: %d: %v", name, kind, got)
			}
		}
	}
}

func TestTrunkWorldOkOfEachNumber(t *testing.T) {
	worlds := goodWorlds()
	for _, name := range []string{"one gateway alone", "at its beginning", "busy", "fallen"} {
		w := worlds[name]
		for at, was := range numbersOf(&w) {
			numbers := nearNumbers(*was)
			for _, n := range []int{numbers[at%2], numbers[2+at%(len(numbers)-2)]} {
				turned := roomy(w)
				*numbersOf(&turned)[at] = n
				if got := impl.TrunkWorldOk(turned); got != slowWorldOk(turned) {
					t.Errorf("%s: %v: ok is %v", name, turned, got)
				}
			}
		}
	}
}

func TestTrunkStepOfNoEvent(t *testing.T) {
	for _, w := range []impl.TrunkWorld{busyWorld(), fallenWorld(), openWorld(nil, []int{7}, nil)} {
		for _, kind := range []int{0, -1, 13, 14, 256, math.MinInt, math.MaxInt} {
			checkNothing(t, w, impl.TrunkEvent{Kind: kind}, impl.TrunkEvent{Kind: kind, At: 1, N: 1, Unit: give(1, 5, 1), Word: impl.MsgWord{Kind: impl.MsgActive, Num: 1}})
		}
		nodes, bytes := len(w.Gates)+len(w.Hosts), len(w.Air)
		for _, at := range []int{-1, nodes, nodes + 1, math.MinInt, math.MaxInt} {
			checkNothing(t, w, evGive(at, 5, 1), evTick(at), evFall(at), evRise(at), evTell(at, impl.MsgJam, 3), evWant(at, 1, false), evClose(at, 0, true))
		}
		for _, at := range []int{-1, bytes, bytes + 1, math.MinInt, math.MaxInt} {
			checkNothing(t, w, evBring(at), evDouble(at), evLose(at))
		}
	}
}

// Who is not Up does nothing but rise; a kind of node does what is told of it alone.
func TestTrunkStepOfOtherNodes(t *testing.T) {
	w := fallenWorld()
	for _, at := range []int{0, 3} {
		checkNothing(t, w, evGive(at, 5, 1), evTick(at), evFall(at), evTell(at, impl.MsgJam, 3), evWant(at, 1, false), evClose(at, 0, true))
		up := checkStep(t, w, evRise(at))
		if sameValue(up, w) {
			t.Errorf("%d does not rise", at)
		}
		checkNothing(t, up, evRise(at))
		checkStep(t, up, evTick(at), evFall(at), evRise(at))
	}
	busy := busyWorld()
	for at := range 2 {
		checkNothing(t, busy, evWant(at, 1, false), evWant(at, 9, true), evRise(at))
	}
	for at := 2; at < 5; at++ {
		checkNothing(t, busy, evGive(at, 5, 1), evTell(at, impl.MsgJam, 3), evTell(at, impl.MsgOff, 99), evRise(at))
	}
	for at := range 5 {
		checkNothing(t, busy, evClose(at, -1, true), evClose(at, 3, false), evClose(at, math.MaxInt, true), evClose(at, math.MinInt, true))
	}
	checkNothing(t, busy, evClose(2, 2, true), evClose(3, 2, false), evTell(0, impl.MsgOff, 7), evTell(0, impl.MsgOn, 8), evTell(0, impl.MsgJam, 1), evTell(0, impl.MsgJam, 4), evTell(0, impl.MsgUp, 1))
	for ctx := -1; ctx <= 10; ctx += 11 {
		checkNothing(t, busy, evWant(3, ctx, true), evWant(3, ctx, false))
	}
	// Whatever is not MsgActive is not to be wished.
	for kind := -1; kind <= 16; kind++ {
		e := evWant(3, 9, true)
		e.Word.Kind, e.Word.Num = kind, 1
		if got := checkStep(t, busy, e); slices.Contains(got.Hosts[1].Book.Wish, 9) != (kind == impl.MsgActive) {
			t.Errorf("kind %d: %v", kind, got.Hosts[1].Book.Wish)
		}
		e.N = 2
		if got := checkStep(t, busy, e); slices.Contains(got.Hosts[1].Book.Wish, 2) != (kind == impl.MsgActive) {
			t.Errorf("kind %d: %v", kind, got.Hosts[1].Book.Wish)
		}
	}
}

// P2: each event that there is, at each place of each good world.
func TestTrunkStepOfGoodWorlds(t *testing.T) {
	for _, w := range goodWorlds() {
		for at := range w.Air {
			checkStep(t, w, evBring(at))
			checkStep(t, w, evDouble(at))
			checkStep(t, w, evLose(at))
		}
		for at := range len(w.Gates) + len(w.Hosts) {
			checkStep(t, w, evFall(at), evRise(at), evTick(at))
			checkStep(t, w, evTick(at), evTick(at), evTick(at), evTick(at), evTick(at))
			for ctx := range 10 {
				checkStep(t, w, evWant(at, ctx, true))
				checkStep(t, w, evWant(at, ctx, false))
			}
			for n := range 3 {
				checkStep(t, w, evClose(at, n, false))
				checkStep(t, w, evClose(at, n, true))
			}
			for _, dest := range []int{5, 105, 205, 305, 306, 400} {
				checkStep(t, w, evGive(at, dest, 1), evGive(at, dest, 2))
			}
			for kind := impl.MsgOff; kind <= impl.MsgJam; kind++ {
				for num := range 4 {
					checkStep(t, w, evTell(at, kind, num))
				}
			}
		}
		checkStep(t, w, evClock())
	}
}

func TestTrunkGivesUnitsThatAreNotOk(t *testing.T) {
	w := oneOf(impl.KeyShare, 2)
	for _, u := range badUnits() {
		u.Mark = 1
		if !slowSrvUnitOk(u) {
			checkNothing(t, w, impl.TrunkEvent{Kind: impl.TrunkGives, Unit: u})
		}
	}
	// Its own mark is none that counts.
	for _, mark := range []int{-1, 0, 7, math.MaxInt} {
		got := checkStep(t, w, impl.TrunkEvent{Kind: impl.TrunkGives, Unit: give(mark, 500, 1)})
		want := give(mark, 500, 1)
		want.Mark = 1
		if len(got.Given) != 1 || !sameValue(got.Given[0], impl.TrunkGiven{Gate: 1, Unit: want}) || got.Gates[0].Ends[1].Out.Flight[0].Mark != 1 {
			t.Errorf("%d: %v", mark, got.Given)
		}
	}
}

func TestTrunkMaxGiven(t *testing.T) {
	w := oneOf(impl.KeyShare, 2)
	w.Given = givenOf(1, 23)
	w = checkStep(t, w, evGive(0, 999, 1))
	if len(w.Given) != 24 || !sameValue(w.Drops, []impl.SrvDrop{{Mark: 24, Why: impl.SrvNoKey}}) {
		t.Fatalf("%v %v", w.Given, w.Drops)
	}
	checkNothing(t, w, evGive(0, 999, 1), evGive(0, 500, 1))
}

func TestTrunkMaxGot(t *testing.T) {
	for _, count := range []int{0, 70, 71, 72} {
		w := oneOf(impl.KeyAll, 1)
		w.Got = make([]impl.TrunkGot, count)
		w = checkStep(t, w, evGive(0, 500, 3), evGive(0, 501, 4), evBring(0), evBring(0))
		want := append(make([]impl.TrunkGot, count), impl.TrunkGot{Host: 11, Gate: 1, Mark: 1, Sls: 3}, impl.TrunkGot{Host: 11, Gate: 1, Mark: 2, Sls: 4})
		if !slices.Equal(w.Got, want[:min(len(want), 72)]) {
			t.Errorf("%d: %v", count, w.Got)
		}
	}
}

func TestTrunkMaxDrops(t *testing.T) {
	for _, count := range []int{0, 70, 71, 72} {
		w := oneOf(impl.KeyAll, 1)
		w.Drops = make([]impl.SrvDrop, count)
		w = checkStep(t, w, evGive(0, 998, 3), evGive(0, 501, 4), evFall(0))
		want := append(make([]impl.SrvDrop, count), impl.SrvDrop{Mark: 1, Why: impl.SrvNoKey}, impl.SrvDrop{Mark: 2, Why: impl.TrunkFell})
		if !slices.Equal(w.Drops, want[:min(len(want), 72)]) {
			t.Errorf("%d: %v", count, w.Drops)
		}
	}
}

// airOf are so many bytes that nobody hears.
func airOf(count int) []impl.TrunkAir {
	var out []impl.TrunkAir
	for at := range count {
		out = append(out, impl.TrunkAir{From: 1998, To: 1999, Bytes: []byte{byte(at)}})
	}
	return out
}

func TestTrunkMaxAir(t *testing.T) {
	for _, count := range []int{37, 38, 39, 40} {
		w := oneOf(impl.KeyAll, 3)
		w.Air = airOf(count)
		// Each of three servers is told something; then there is what ticks say, and what is doubled and forged.
		for name, e := range map[string]impl.TrunkEvent{
			"told":    evTell(0, impl.MsgJam, 1),
			"doubled": evDouble(0),
			"forged":  evForge(1, 2, []byte{9}),
			"given":   evGive(0, 500, 1),
		} {
			got := checkStep(t, w, e)
			more := 3
			if name == "doubled" || name == "forged" {
				more = 1
			}
			if len(got.Air) != min(40, count+more) || !sameValue(got.Air[:count], w.Air) {
				t.Errorf("%s at %d: %v", name, count, got.Air)
			}
			if count < 40 && name == "told" && (got.Air[count].From != 2 || got.Air[count].To != 22) {
				t.Errorf("told to %v", got.Air[count])
			}
		}
		// What is taken out makes room for what is said to it.
		w.Air[0] = impl.TrunkAir{From: 2, To: 22, Bytes: framed(w.Hosts[0].Ends[0], impl.FrmChunk{Kind: impl.FrmBeat, Body: []byte{1}})}
		got := checkStep(t, w, evBring(0))
		if len(got.Air) != count || got.Air[count-1].From != 22 || got.Air[count-1].To != 2 {
			t.Errorf("brought at %d: %v", count, got.Air)
		}
	}
}

func TestTrunkMaxData(t *testing.T) {
	w := oneOf(impl.KeyOne, 1)
	for range 8 {
		w = checkStep(t, w, evGive(0, 500, 1))
	}
	if queue := w.Gates[0].Ends[0].Out.Queue; len(queue) != 6 || len(w.Drops) != 0 {
		t.Fatalf("%v %v", queue, w.Drops)
	}
	full := checkStep(t, w, evGive(0, 500, 2))
	if !sameValue(full.Drops, []impl.SrvDrop{{Mark: 9, Why: impl.SrvJammed}}) || !sameValue(full.Gates, w.Gates) {
		t.Errorf("%v", full)
	}
	// Another message still finds room, and takes that of a unit; with one less there is room again.
	told := checkStep(t, w, evTell(0, impl.MsgJam, 1))
	if len(told.Gates[0].Ends[0].Out.Queue) != 7 || told.Gates[0].Ends[0].Line.State != impl.AscUp {
		t.Errorf("%v", told.Gates[0].Ends[0])
	}
	w.Gates[0].Ends[0].Out.Queue = w.Gates[0].Ends[0].Out.Queue[1:]
	again := checkStep(t, w, evGive(0, 500, 2))
	if len(again.Gates[0].Ends[0].Out.Queue) != 6 || len(again.Drops) != 0 {
		t.Errorf("%v", again)
	}
}

// A unit goes in the stream of its choice, under its mark; another message in the stream 0, under none.
func TestTrunkStreamsOfMessages(t *testing.T) {
	for sls := range 16 {
		w := checkStep(t, oneOf(impl.KeyOne, 1), evGive(0, 503, sls), evTell(0, impl.MsgOff, 5))
		flight := w.Gates[0].Ends[0].Out.Flight
		if len(flight) != 4 || flight[0].Mark != 1 || flight[0].Piece.Stream != 1+sls%2 || flight[3].Mark != 0 || flight[3].Piece.Stream != 0 || flight[3].Piece.Loose {
			t.Errorf("%d: %v", sls, flight)
		}
		var body []byte
		for _, s := range flight[:3] {
			body = append(body, s.Piece.Body...)
		}
		if !slices.Equal(body, slowMsg(impl.MsgWord{Kind: impl.MsgData, Ctx: 2, Num: 1, Dest: 503, Sls: sls, Body: evGive(0, 503, sls).Unit.Body})) {
			t.Errorf("%d: %v", sls, body)
		}
	}
}

func TestTrunkMaxTags(t *testing.T) {
	first := 4294967290
	for at := range 3 {
		w := oneOf(impl.KeyOne, 2)
		w = checkStep(t, w, evTick(at), evTick((at+1)%3))
		for len(w.Air) == 0 || w.Air[0].To/2 != []int{1, 11, 12}[at] {
			w = checkStep(t, w, evTick(0), evTick(1))
			for len(w.Air) > 0 && w.Air[0].To/2 != []int{1, 11, 12}[at] {
				w = checkStep(t, w, evBring(0))
			}
		}
		set := func(tags int) impl.TrunkWorld {
			v := roomy(w)
			if at == 0 {
				v.Gates[0].Tags = tags
			} else {
				v.Hosts[at-1].Tags = tags
			}
			return v
		}
		tagsOf := func(v impl.TrunkWorld) int {
			if at == 0 {
				return v.Gates[0].Tags
			}
			return v.Hosts[at-1].Tags
		}
		for _, tags := range []int{999998, 999999} {
			if v := checkStep(t, set(tags), evBring(0)); tagsOf(v) != tags+1 {
				t.Errorf("%d: %d tags", at, tagsOf(v))
			}
		}
		full := set(1000000)
		want := roomy(full)
		want.Air = want.Air[1:]
		if v := checkStep(t, full, evBring(0)); !sameValue(v, want) {
			t.Errorf("%d: it hears without tags:\n%v", at, v)
		}
	}
	// A first word is answered under the tag that hearing takes, and said under one as well.
	for _, tags := range []int{5, 6, 999998, 999999, 1000000} {
		w := openWorld(keyOf(impl.KeyOne), []int{1}, []impl.TrunkWish{{Name: 11}})
		w.Hosts[0].Tags, w.Gates[0].Tags = tags, tags
		v := checkStep(t, w, evTick(1))
		if tags == 1000000 {
			if !sameValue(v, w) {
				t.Errorf("it begins without tags: %v", v)
			}
			continue
		}
		line := v.Hosts[0].Ends[0].Line
		if line.Tag != tags+1 || line.Tsn != onward(first, tags+1) || v.Hosts[0].Tags != tags+1 || len(v.Air) != 1 {
			t.Fatalf("%d: %v", tags, v)
		}
		v = checkStep(t, v, evBring(0))
		p, _, _ := impl.FrmRead(v.Air[0].Bytes)
		if v.Gates[0].Tags != tags+1 || p.Chunks[0].Kind != impl.FrmInitAck || p.Chunks[0].Tag != tags+1 || p.Chunks[0].Tsn != onward(first, tags+1) {
			t.Errorf("%d: %v", tags, p)
		}
	}
}

func TestTrunkMaxFalls(t *testing.T) {
	for at := range 2 {
		for _, falls := range []int{0, 998, 999, 1000} {
			w := openWorld(keyOf(impl.KeyOne), []int{7}, []impl.TrunkWish{{Name: 9, Wish: []int{2}}})
			if at == 0 {
				w.Gates[0].Falls, w.Gates[0].Tags = falls, 50
				w.Gates[0].Ends[0] = impl.TrunkEndOpen(7, 9, 7001+falls, 3)
			} else {
				w.Hosts[0].Falls, w.Hosts[0].Tags = falls, 50
				w.Hosts[0].Ends[0] = impl.TrunkEndOpen(9, 7, 9001+falls, 3)
			}
			if falls == 1000 {
				checkNothing(t, w, evFall(at))
				continue
			}
			v := checkStep(t, w, evFall(at))
			up, tags, fell, secret := v.Gates[0].Up, v.Gates[0].Tags, v.Gates[0].Falls, v.Gates[0].Ends[0].Line.Secret-7000
			if at == 1 {
				up, tags, fell, secret = v.Hosts[0].Up, v.Hosts[0].Tags, v.Hosts[0].Falls, v.Hosts[0].Ends[0].Line.Secret-9000
			}
			if up || tags != 50 || fell != falls+1 || secret != falls+2 {
				t.Errorf("%d falls: %v", at, v)
			}
		}
	}
}

func TestTrunkNowAtAscMaxTick(t *testing.T) {
	w := oneOf(impl.KeyOne, 1)
	w.Now = 999999
	w = checkStep(t, w, evClock())
	if w.Now != 1000000 {
		t.Errorf("%d", w.Now)
	}
	checkNothing(t, w, evClock())
	for range 9 {
		w = checkStep(t, w, evTick(0), evTick(1), evBring(0), evBring(0), evBring(0), evBring(0))
	}
	if got := impl.TrunkCalmly(w, 3, -1); got.Now != 1000000 || !impl.TrunkServed(got) {
		t.Errorf("%v", got)
	}
}

// whereAll tells where each unit that was given is.
func whereAll(w impl.TrunkWorld) []int {
	var out []int
	for at := range w.Given {
		out = append(out, impl.TrunkClass(w, at+1))
	}
	return out
}

// queued are the marks of what waits at the ends of the first gateway.
func queued(w impl.TrunkWorld) [][]int {
	var out [][]int
	for _, e := range w.Gates[0].Ends {
		marks := []int{}
		for _, u := range e.Out.Queue {
			marks = append(marks, u.Mark)
		}
		out = append(out, marks)
	}
	return out
}

// Units that wait at several ends, when another server becomes active for their range, are given anew in the order of their marks.
func TestTrunkGivesAnewWhenAnotherServes(t *testing.T) {
	keys := []impl.KeyRow{{Ctx: 2, Low: 500, High: 509, Mode: impl.KeyShare}, {Ctx: 3, Low: 600, High: 609, Mode: impl.KeyOne}, {Ctx: 4, Low: 700, High: 709, Mode: impl.KeyAll}}
	w := servedWorld(keys, []int{1}, []impl.TrunkWish{{Name: 11, Wish: []int{2, 3, 4}}, {Name: 12, Wish: []int{2, 4}}, {Name: 13, Wish: []int{4}}})
	// Two fly to 11 and two to 12; 5 and up wait, at 11 what has an even choice.
	for sls := range 4 {
		w = checkStep(t, w, evGive(0, 500+sls, sls))
	}
	for sls := range 6 {
		w = checkStep(t, w, evGive(0, 500, sls))
	}
	w = checkStep(t, w, evGive(0, 600, 1), evGive(0, 700, 1))
	if got := queued(w); !slices.Equal(got[0], []int{5, 7, 9, 11, 12}) || !slices.Equal(got[1], []int{6, 8, 10, 12}) || len(got[2]) != 0 {
		t.Fatalf("%v", got)
	}
	w = checkStep(t, w, evWant(3, 2, true))
	at := len(w.Air) - 1
	if w.Air[at].From != 26 {
		t.Fatalf("%v", w.Air)
	}
	w = checkStep(t, w, evBring(at))
	// Of three 11 is for 0 and 3, 12 for 1 and 4, 13 for 2 and 5; units of other ranges stay, and stand ahead now. 13 takes its ones, and the answer to what it asked, at once.
	got := queued(w)
	if !slices.Equal(got[0], []int{11, 12, 5, 8}) || !slices.Equal(got[1], []int{12, 6, 9}) || len(got[2]) != 1 {
		t.Errorf("%v", got)
	}
	if classes := whereAll(w); !slices.Equal(classes, []int{4, 4, 4, 4, 3, 3, 4, 3, 3, 3, 3, 3}) {
		t.Errorf("%v", classes)
	}
	v := impl.TrunkCalmly(w, 4, -1)
	if !impl.TrunkSafe(v) || len(v.Got) != 14 || len(v.Drops) != 0 {
		t.Errorf("%v %v", v.Got, v.Drops)
	}
}

// A range that is KeyAll, one server of which goes: what it was never said is dropped, what the others are said is not.
func TestTrunkServerOfAllGoes(t *testing.T) {
	w := oneOf(impl.KeyAll, 2)
	for range 5 {
		w = checkStep(t, w, evGive(0, 500, 1))
	}
	w = checkStep(t, w, evClose(0, 0, true))
	want := []impl.SrvDrop{{Mark: 1, Why: 6}, {Mark: 2, Why: 6}, {Mark: 3, Why: 6}, {Mark: 4, Why: 6}, {Mark: 5, Why: 6}}
	if !slices.Equal(w.Drops, want) || !slices.Equal(queued(w)[1], []int{3, 4, 5}) || w.Gates[0].Book.Ranges[0].State != impl.SrvActive {
		t.Errorf("%v %v", w.Drops, queued(w))
	}
	if classes := whereAll(w); !slices.Equal(classes, []int{4, 4, 3, 3, 3}) {
		t.Errorf("%v", classes)
	}
	w = checkStep(t, w, evClose(0, 1, false))
	if classes := whereAll(w); !slices.Equal(classes, []int{16, 16, 16, 16, 16}) || len(w.Drops) != 10 || w.Gates[0].Book.Ranges[0].State != impl.SrvPending {
		t.Errorf("%v %v", classes, w.Drops)
	}
}

// An epoch that is lost with pieces under way and with units that were never said: these go to whoever serves the range then, or wait.
func TestTrunkEpochIsLost(t *testing.T) {
	for _, hard := range []bool{false, true} {
		w := oneOf(impl.KeyShare, 2)
		for i := range 10 {
			w = checkStep(t, w, evGive(0, 500, i%2))
		}
		if got := queued(w); !slices.Equal(got[0], []int{5, 7, 9}) || !slices.Equal(got[1], []int{6, 8, 10}) {
			t.Fatalf("%v", got)
		}
		v := checkStep(t, w, evClose(0, 0, hard))
		// 12 is told nothing, as the range is served as ahead of it, and has room for all but the last.
		if got := queued(v); !slices.Equal(got[1], []int{5, 6, 7, 8, 9, 10}) || len(got[0]) != 0 {
			t.Errorf("%v", got)
		}
		if !slices.Equal(v.Drops, []impl.SrvDrop{{Mark: 1, Why: 6}, {Mark: 3, Why: 6}}) {
			t.Errorf("%v", v.Drops)
		}
		v = checkStep(t, v, evClose(0, 1, hard))
		r := v.Gates[0].Book.Ranges[0]
		if len(r.Wait) != 6 || r.Wait[0].Mark != 5 || r.Wait[5].Mark != 10 || r.State != impl.SrvPending || r.Left != 5 {
			t.Errorf("%v", r)
		}
		if classes := whereAll(v); !slices.Equal(classes, []int{16, 16, 16, 16, 2, 2, 2, 2, 2, 2}) {
			t.Errorf("%v", classes)
		}
		// There is no room for a seventh; and those that wait longer than SrvTr are dropped.
		v = checkStep(t, v, evGive(0, 500, 1))
		for range 5 {
			v = checkStep(t, v, evTick(0))
		}
		if classes := whereAll(v); !slices.Equal(classes, []int{16, 16, 16, 16, 13, 13, 13, 13, 13, 13, 14}) {
			t.Errorf("%v", classes)
		}
	}
}

// With more than there is room for at the one that is left the last ones are dropped.
func TestTrunkEpochIsLostWithoutRoom(t *testing.T) {
	w := oneOf(impl.KeyShare, 2)
	for i := range 16 {
		w = checkStep(t, w, evGive(0, 500, i%2))
	}
	w = checkStep(t, w, evClose(0, 0, true))
	if got := queued(w); !slices.Equal(got[1], []int{5, 6, 7, 8, 9, 10}) {
		t.Errorf("%v", got)
	}
	if classes := whereAll(w); !slices.Equal(classes, []int{16, 4, 16, 4, 3, 3, 3, 3, 3, 3, 17, 17, 17, 17, 17, 17}) {
		t.Errorf("%v", classes)
	}
}

// A message that cannot be said shuts the line, hard; what follows from that is said to the others.
func TestTrunkMessageThatCannotBeSaid(t *testing.T) {
	w := oneOf(impl.KeyAll, 2)
	for i := range 20 {
		w = checkStep(t, w, evTell(0, []int{impl.MsgOff, impl.MsgOn}[i%2], 7))
		w.Air = nil
	}
	for _, e := range w.Gates[0].Ends {
		if len(e.Out.Flight) != 8 || len(e.Out.Queue) != 12 {
			t.Fatalf("%v", e)
		}
	}
	// The first end has room for one more.
	w.Gates[0].Ends[0].Out.Queue = w.Gates[0].Ends[0].Out.Queue[:11]
	v := checkStep(t, w, evTell(0, impl.MsgJam, 2))
	if v.Gates[0].Ends[0].Line.State != impl.AscUp || v.Gates[0].Ends[1].Line.State != impl.AscClosed || v.Gates[0].Book.Servers[1].Up || v.Gates[0].Book.Jam != 2 {
		t.Errorf("%v", v.Gates[0])
	}
	if !sameValue(v.Air, []impl.TrunkAir{{From: 2, To: 24, Bytes: framed(w.Hosts[1].Ends[0], impl.FrmChunk{Kind: impl.FrmAbort})}}) {
		t.Errorf("%v", v.Air)
	}
	// With both full both lines are shut: the range waits for a server then.
	v = checkStep(t, v, evTell(0, impl.MsgJam, 3))
	if v.Gates[0].Ends[0].Line.State != impl.AscClosed || v.Gates[0].Book.Ranges[0].State != impl.SrvPending || len(v.Air) != 2 {
		t.Errorf("%v", v)
	}
	if v = impl.TrunkCalmly(v, 10, -1); !impl.TrunkServed(v) {
		t.Error(impl.TrunkBoard(v))
	}
}

// A server that cannot say a message shuts its line as well, and says nothing more to that gateway, but to others.
func TestTrunkServerCannotSay(t *testing.T) {
	w := servedWorld(keyOf(impl.KeyShare), []int{1, 5}, []impl.TrunkWish{{Name: 11, Wish: []int{3}}})
	for range 20 {
		w = checkStep(t, w, evWant(2, 3, false), evWant(2, 3, true))
		w.Air = nil
	}
	for _, e := range w.Hosts[0].Ends {
		if len(e.Out.Flight) != 8 || len(e.Out.Queue) != 12 {
			t.Fatalf("%v", e)
		}
	}
	w.Hosts[0].Ends[1].Out.Queue = w.Hosts[0].Ends[1].Out.Queue[:11]
	v := checkStep(t, w, evWant(2, 3, false))
	h := v.Hosts[0]
	if h.Ends[0].Line.State != impl.AscClosed || h.Book.Gates[0].Up || h.Ends[1].Line.State != impl.AscUp || !h.Book.Gates[1].Up || len(h.Ends[1].Out.Queue) != 12 {
		t.Errorf("%v", h)
	}
	if !sameValue(v.Air, []impl.TrunkAir{{From: 22, To: 2, Bytes: framed(w.Gates[0].Ends[0], impl.FrmChunk{Kind: impl.FrmAbort})}}) {
		t.Errorf("%v", v.Air)
	}
}

// bodiesTo is a frame of the epoch to an end, with units that come whole, as the next ones of the stream 0.
func bodiesTo(e impl.TrunkEnd, bodies ...[]byte) []byte {
	tsn := e.In.Cum
	var chunks []impl.FrmChunk
	for n, body := range bodies {
		pieces := slowBodies(impl.DatUnit{Body: body})
		for at, piece := range pieces {
			tsn = onward(tsn, 1)
			p := impl.DatPiece{Tsn: tsn, Ssn: (e.In.Ssns[0] + n) % 65536, First: at == 0, Last: at == len(pieces)-1, Body: piece}
			chunks = append(chunks, chunkOf(p))
		}
	}
	return framed(e, chunks...)
}

func wordsTo(e impl.TrunkEnd, words ...impl.MsgWord) []byte {
	var bodies [][]byte
	for _, w := range words {
		bodies = append(bodies, slowMsg(w))
	}
	return bodiesTo(e, bodies...)
}

// clog lets so many messages wait at an end, behind as many as may be under way; what goes out is lost.
func clog(e *impl.TrunkEnd, count int) {
	for n := 0; len(e.Out.Queue) < count; n++ {
		*e, _, _ = impl.TrunkPush(*e, impl.DatUnit{Body: slowMsg(impl.MsgWord{Kind: impl.MsgAsk, Num: n})})
	}
}

// heardBy brings bytes to the end at a place of a node, by its first way.
func heardBy(t *testing.T, w impl.TrunkWorld, e impl.TrunkEnd, b []byte) impl.TrunkWorld {
	t.Helper()
	w = roomy(w)
	w.Air = []impl.TrunkAir{{From: 2 * e.Line.Peer, To: 2 * e.Line.Me, Bytes: b}}
	return checkStep(t, w, evBring(0))
}

// Each message that there is, at each end that is up, and bytes that are none.
func TestTrunkHearsEachMessage(t *testing.T) {
	heard := 0
	for _, w := range []impl.TrunkWorld{busyWorld(), quietWorld(), oneOf(impl.KeyAll, 3)} {
		for _, e := range allEnds(w) {
			if e.Line.State != impl.AscUp {
				continue
			}
			for kind := impl.MsgUp; kind <= impl.MsgBad; kind++ {
				for ctx := 1; ctx <= 8; ctx++ {
					word := msgOf(kind)
					if slices.Contains(msgRanged, kind) {
						word.Ctx = ctx
					} else if ctx > 5 {
						continue
					}
					if slices.Contains(msgNumbered, kind) {
						word.Num = ctx % 5
					}
					heardBy(t, w, e, wordsTo(e, word))
					heardBy(t, w, e, wordsTo(e, impl.MsgWord{Kind: impl.MsgAsk, Num: 7}, word))
					heard++
				}
			}
			whole := slowMsg(impl.MsgWord{Kind: impl.MsgIdle, Ctx: 2})
			for _, body := range [][]byte{{1}, whole[:15], append(slices.Clone(whole), 0, 0, 0, 0), make([]byte, 48)} {
				v := heardBy(t, w, e, bodiesTo(e, body))
				u := heardBy(t, w, e, bodiesTo(e, body, whole))
				if !sameValue(allBooks(v), allBooks(w)) || !sameValue(allBooks(u), allBooks(heardBy(t, w, e, wordsTo(e, impl.MsgWord{Kind: impl.MsgIdle, Ctx: 2})))) {
					t.Errorf("%v is heard", body)
				}
			}
		}
	}
	if heard < 800 {
		t.Errorf("%d messages", heard)
	}
}

// books are those of all nodes.
type books struct {
	gates []impl.SrvBook
	hosts []impl.AspBook
}

func allBooks(w impl.TrunkWorld) books {
	var out books
	for _, g := range w.Gates {
		out.gates = append(out.gates, g.Book)
	}
	for _, h := range w.Hosts {
		out.hosts = append(out.hosts, h.Book)
	}
	return out
}

// A gateway that says back what it cannot, and so shuts the line, hears no unit behind that.
func TestTrunkGatewayHearsNothingBehindAShutLine(t *testing.T) {
	w := oneOf(impl.KeyShare, 2)
	e := &w.Gates[0].Ends[0]
	clog(e, 12)
	v := heardBy(t, w, *e, wordsTo(*e, impl.MsgWord{Kind: impl.MsgAsk, Num: 5}, impl.MsgWord{Kind: impl.MsgUp}, impl.MsgWord{Kind: impl.MsgActive, Ctx: 2}))
	if g := v.Gates[0]; g.Ends[0].Line.State != impl.AscClosed || g.Book.Servers[0].Up || !g.Book.Servers[1].Up || g.Ends[1].Line.State != impl.AscUp {
		t.Errorf("%v", g)
	}
	// With room for one answer the second message is heard, and shuts it.
	e.Out.Queue = e.Out.Queue[:11]
	v = heardBy(t, w, *e, wordsTo(*e, impl.MsgWord{Kind: impl.MsgAsk, Num: 5}))
	if g := v.Gates[0]; g.Ends[0].Line.State != impl.AscUp || !g.Book.Servers[0].Up {
		t.Errorf("%v", g)
	}
}

func TestTrunkServerHearsNothingBehindAShutLine(t *testing.T) {
	w := oneOf(impl.KeyShare, 2)
	e := &w.Hosts[0].Ends[0]
	clog(e, 12)
	unit := impl.MsgWord{Kind: impl.MsgData, Ctx: 2, Num: 1, Dest: 500, Sls: 1, Body: []byte{1}}
	idle := impl.MsgWord{Kind: impl.MsgState, Ctx: 2, Num: impl.SrvIdle}
	for _, words := range [][]impl.MsgWord{{idle, unit}, {idle, {Kind: impl.MsgUpAck}}, {idle, {Kind: impl.MsgUpAck}, {Kind: impl.MsgJam, Num: 2}, unit}} {
		v := heardBy(t, w, *e, wordsTo(*e, words...))
		if h := v.Hosts[0]; len(v.Got) != 0 || h.Ends[0].Line.State != impl.AscClosed || !sameValue(h.Book.Gates[0], impl.AspGate{Gate: 1}) {
			t.Errorf("%v: %v", words, v)
		}
	}
	// Units ahead of it are got.
	v := heardBy(t, w, *e, wordsTo(*e, unit, idle))
	if !slices.Equal(v.Got, []impl.TrunkGot{{Host: 11, Gate: 1, Mark: 1, Sls: 1}}) {
		t.Errorf("%v", v.Got)
	}
}

// A server that asks for a range is shut when it cannot be answered; what waited in the range was to be said to it, and is dropped.
func TestTrunkUnitsToAShutLine(t *testing.T) {
	w := checkStep(t, oneOf(impl.KeyShare, 1), evWant(1, 2, false), evBring(0))
	w.Air = nil
	w = checkStep(t, w, evGive(0, 500, 1), evGive(0, 501, 2), evGive(0, 502, 1))
	if classes := whereAll(w); !slices.Equal(classes, []int{2, 2, 2}) {
		t.Fatalf("%v", classes)
	}
	clog(&w.Gates[0].Ends[0], 12)
	e := w.Gates[0].Ends[0]
	v := heardBy(t, w, e, wordsTo(e, impl.MsgWord{Kind: impl.MsgActive, Ctx: 2}))
	if !slices.Equal(v.Drops, []impl.SrvDrop{{Mark: 1, Why: 6}, {Mark: 2, Why: 6}, {Mark: 3, Why: 6}}) || v.Gates[0].Book.Ranges[0].State != impl.SrvPending || v.Gates[0].Book.Ranges[0].Left != 5 {
		t.Errorf("%v %v", v.Drops, v.Gates[0].Book)
	}
}

// Units of a range that another one serves wait at an end whose epoch is lost: they are given anew, though who serves the range stays.
func TestTrunkUnitsOfAnothersRange(t *testing.T) {
	keys := []impl.KeyRow{{Ctx: 2, Low: 500, High: 509, Mode: impl.KeyShare}, {Ctx: 3, Low: 600, High: 609, Mode: impl.KeyShare}}
	w := servedWorld(keys, []int{1}, []impl.TrunkWish{{Name: 11, Wish: []int{2}}, {Name: 12, Wish: []int{3}}})
	for mark := 1; mark <= 2; mark++ {
		u := give(mark, 600, 1)
		w.Given = append(w.Given, impl.TrunkGiven{Gate: 1, Unit: u})
		body := slowMsg(impl.MsgWord{Kind: impl.MsgData, Ctx: 3, Num: mark, Dest: 600, Sls: 1, Body: u.Body})
		w.Gates[0].Ends[0].Out.Queue = append(w.Gates[0].Ends[0].Out.Queue, impl.DatUnit{Mark: mark, Stream: 1, Body: body})
	}
	v := checkStep(t, w, evClose(0, 0, true))
	if classes := whereAll(v); !slices.Equal(classes, []int{4, 4}) || len(v.Gates[0].Ends[1].Out.Flight) == 0 {
		t.Errorf("%v", classes)
	}
}

// A tick drops what has waited too long ahead of what follows from telling so.
func TestTrunkTickDropsFirst(t *testing.T) {
	keys := []impl.KeyRow{{Ctx: 2, Low: 500, High: 509, Mode: impl.KeyOne}, {Ctx: 3, Low: 600, High: 609, Mode: impl.KeyOne}}
	w := servedWorld(keys, []int{1}, []impl.TrunkWish{{Name: 11, Wish: []int{2}}, {Name: 12, Wish: []int{3}}})
	w = checkStep(t, w, evClose(0, 0, true), evGive(0, 500, 1), evGive(0, 600, 1))
	clog(&w.Gates[0].Ends[1], 12)
	for range 5 {
		if len(w.Drops) != 0 {
			t.Fatalf("%v", w.Drops)
		}
		w = checkStep(t, w, evTick(0))
	}
	if !slices.Equal(w.Drops, []impl.SrvDrop{{Mark: 1, Why: impl.SrvExpired}, {Mark: 2, Why: impl.SrvEnded}}) || w.Gates[0].Ends[1].Line.State != impl.AscClosed {
		t.Errorf("%v", w.Drops)
	}
}

// One line is shut while it is told that another one is lost: what follows from the one is done ahead of what else is to be said of the other.
func TestTrunkShutsWhileItTells(t *testing.T) {
	keys := []impl.KeyRow{{Ctx: 2, Low: 500, High: 509, Mode: impl.KeyShare}, {Ctx: 3, Low: 600, High: 609, Mode: impl.KeyOne}}
	w := servedWorld(keys, []int{1}, []impl.TrunkWish{{Name: 11, Wish: []int{3}}, {Name: 12, Wish: []int{2}}, {Name: 13, Wish: []int{2}}})
	for range 5 {
		w = checkStep(t, w, evGive(0, 500, 1))
	}
	w = checkStep(t, w, evGive(0, 500, 2), evGive(0, 600, 1))
	if got := queued(w); !slices.Equal(got[2], []int{3, 4, 5}) {
		t.Fatalf("%v", got)
	}
	clog(&w.Gates[0].Ends[1], 12)
	v := checkStep(t, w, evClose(0, 0, true))
	if got := queued(v); !slices.Equal(got[2], []int{3, 4, 5, 0}) || v.Gates[0].Ends[1].Line.State != impl.AscClosed {
		t.Errorf("%v", got)
	}
	if !slices.Equal(v.Drops, []impl.SrvDrop{{Mark: 7, Why: 6}, {Mark: 6, Why: 6}}) {
		t.Errorf("%v", v.Drops)
	}
}

// A cookie that the node itself has baked begins an epoch, and another one in the place of one that is up; a server says then that it is up, a gateway has lost what it had.
func TestTrunkEpochsByCookies(t *testing.T) {
	w := checkStep(t, oneOf(impl.KeyShare, 2), evGive(0, 500, 0), evGive(0, 500, 0), evGive(0, 500, 0))
	for _, e := range []impl.TrunkEnd{w.Gates[0].Ends[0], w.Hosts[0].Ends[0]} {
		line := e.Line
		tag := line.Tag + 1
		k := impl.AscCookie{Me: line.Me, Peer: line.Peer, Tag: tag, PeerTag: 900, Tsn: 70, PeerTsn: 80, Streams: 2, Made: w.Now, OldTag: line.Tag, OldPeerTag: line.PeerTag}
		b := slowFrame(toEnd(line, tag, impl.FrmChunk{Kind: impl.FrmEcho, Body: impl.AscBake(line.Secret, k)}))
		v := heardBy(t, w, e, b)
		if line.Me == 1 {
			if g := v.Gates[0]; g.Ends[0].Line.Tag != tag || g.Book.Servers[0].Up || !slices.Equal(whereAll(v), []int{16, 16, 4}) {
				t.Errorf("%v", v)
			}
		} else if h := v.Hosts[0]; h.Ends[0].Line.Tag != tag || !sameValue(h.Book.Gates[0], impl.AspGate{Gate: 1}) || len(h.Ends[0].Out.Flight) != 1 || len(v.Air) != 2 {
			t.Errorf("%v", v)
		}
		closed := roomy(w)
		at := 0
		if line.Me == 1 {
			closed = checkStep(t, closed, evClose(0, 0, true))
			e = closed.Gates[0].Ends[0]
		} else {
			at = 1
			closed = checkStep(t, closed, evClose(1, 0, true))
			e = closed.Hosts[0].Ends[0]
		}
		v = heardBy(t, closed, e, b)
		if at == 0 && (v.Gates[0].Ends[0].Line.Tag != tag || len(v.Air) != 1) || at == 1 && (v.Hosts[0].Ends[0].Line.Tag != tag || len(v.Air) != 2) {
			t.Errorf("%v", v)
		}
	}
}

// A node hears by each of its addresses, and by no other one; it answers by the way by which it heard.
func TestTrunkAddresses(t *testing.T) {
	w := servedWorld(keyOf(impl.KeyShare), []int{1, 5}, []impl.TrunkWish{{Name: 11, Wish: []int{3}}, {Name: 12}})
	beat := impl.FrmChunk{Kind: impl.FrmBeat, Body: []byte{7}}
	for from := range 30 {
		for to := range 30 {
			for _, c := range []struct {
				gate, host int
				toHost     bool
			}{{1, 11, true}, {1, 11, false}, {5, 12, true}, {5, 12, false}} {
				g, h := w.Gates[c.gate/5], w.Hosts[c.host-11]
				e, me, peer := h.Ends[c.gate/5], c.host, c.gate
				if !c.toHost {
					e, me, peer = g.Ends[c.host-11], c.gate, c.host
				}
				v := roomy(w)
				v.Air = []impl.TrunkAir{{From: from, To: to, Bytes: framed(e, beat)}}
				heard := to/2 == me && from/2 == peer
				got := checkStep(t, v, evBring(0))
				if len(got.Air) != 0 != heard {
					t.Fatalf("from %d to %d, of %v: %v", from, to, c, got.Air)
				}
				if heard && (got.Air[0].From != to || got.Air[0].To != 2*peer+to%2) {
					t.Errorf("from %d to %d: it answers from %d to %d", from, to, got.Air[0].From, got.Air[0].To)
				}
			}
		}
	}
}

// Bytes to a node that is not Up are gone.
func TestTrunkBringsToWhoIsNotUp(t *testing.T) {
	w := checkStep(t, oneOf(impl.KeyAll, 2), evGive(0, 500, 1), evFall(1))
	v := checkStep(t, w, evBring(0))
	if len(v.Air) != 1 || !sameValue(v.Hosts, w.Hosts) || !sameValue(v.Gates, w.Gates) {
		t.Errorf("%v", v)
	}
	// Risen, it knows nothing of the epoch.
	v = checkStep(t, w, evRise(1), evBring(0))
	p, _, _ := impl.FrmRead(v.Air[1].Bytes)
	if len(v.Got) != 0 || p.Chunks[0].Kind != impl.FrmAbort || p.Chunks[0].Flags != 1 {
		t.Errorf("%v", v)
	}
	v = checkStep(t, v, evBring(1))
	if v.Gates[0].Ends[0].Line.State != impl.AscClosed || impl.TrunkClass(v, 1) != impl.ClassFlies || v.Drops[0] != (impl.SrvDrop{Mark: 1, Why: impl.SrvEnded}) {
		t.Errorf("%v", v)
	}
}

// What falls with a gateway: of each end what is under way, and what waits, and then what waits in ranges.
func TestTrunkGatewayFalls(t *testing.T) {
	keys := []impl.KeyRow{{Ctx: 2, Low: 500, High: 509, Mode: impl.KeyAll}, {Ctx: 3, Low: 600, High: 609, Mode: impl.KeyOne}}
	w := servedWorld(keys, []int{1, 5}, []impl.TrunkWish{{Name: 11, Wish: []int{2}}, {Name: 12, Wish: []int{2}}, {Name: 13, Wish: []int{3}}})
	w = checkStep(t, w, evTell(0, impl.MsgOff, 7), evTell(0, impl.MsgJam, 2))
	w.Air = nil
	w = checkStep(t, w, evGive(0, 500, 1), evGive(0, 501, 2), evGive(1, 502, 2), evClose(0, 2, true), evGive(0, 600, 1), evGive(0, 601, 2), evGive(0, 502, 1))
	v := checkStep(t, w, evFall(0))
	var marks []int
	for _, d := range v.Drops {
		if d.Why != impl.TrunkFell {
			t.Errorf("%v", d)
		}
		marks = append(marks, d.Mark)
	}
	if !slices.Equal(marks, []int{1, 2, 6, 1, 2, 6, 4, 5}) {
		t.Errorf("%v", marks)
	}
	g := v.Gates[0]
	if g.Up || g.Falls != 1 || g.Tags != w.Gates[0].Tags || !sameValue(g.Book, openBook(keys, 11, 12, 13)) || !sameValue(v.Air, w.Air) || !sameValue(v.Hosts, w.Hosts) {
		t.Errorf("%v", v)
	}
	for at, e := range g.Ends {
		if !sameValue(e, impl.TrunkEndOpen(1, 11+at, 1002, 3)) {
			t.Errorf("%v", e)
		}
	}
	if classes := whereAll(v); !slices.Equal(classes, []int{18, 18, 4, 18, 18, 18}) {
		t.Errorf("%v", classes)
	}
}

// A server that falls keeps what it wishes, and nothing else; its next life is another one.
func TestTrunkServerFalls(t *testing.T) {
	w := oneOf(impl.KeyOne, 1)
	w = checkStep(t, w, evWant(1, 5, true), evGive(0, 500, 1), evBring(0), evBring(0), evBring(0), evFall(1))
	h := w.Hosts[0]
	if h.Up || h.Falls != 1 || !sameValue(h.Book, impl.AspBook{Wish: []int{2, 5}, Gates: []impl.AspGate{{Gate: 1}}}) || !sameValue(h.Ends, []impl.TrunkEnd{impl.TrunkEndOpen(11, 1, 11002, 3)}) {
		t.Errorf("%v", h)
	}
	w = checkStep(t, w, evRise(1))
	w = impl.TrunkCalmly(w, 10, -1)
	w = impl.TrunkCalmly(checkStep(t, w, evGive(0, 500, 1)), 2, -1)
	if !slices.Equal(w.Got, []impl.TrunkGot{{Host: 11, Gate: 1, Mark: 1, Sls: 1}, {Host: 11, Life: 1, Gate: 1, Mark: 2, Sls: 1}}) {
		t.Errorf("%v", w.Got)
	}
}

// forgery is bytes, and whether who knows nothing could have made them.
type forgery struct {
	name  string
	bytes []byte
	could bool
}

// forgeries are bytes of all sorts for an end.
func forgeries(e impl.TrunkEnd) []forgery {
	line := e.Line
	frame := func(tag int, chunks ...impl.FrmChunk) []byte { return slowFrame(toEnd(line, tag, chunks...)) }
	cookie := impl.AscBake(line.Secret, impl.AscCookie{Me: line.Me, Peer: line.Peer, Tag: 1000001, PeerTag: 7, Streams: 1})
	word := func(tag int) impl.FrmChunk {
		return impl.FrmChunk{Kind: impl.FrmInit, Tag: tag, Window: 4096, Stream: 3, Tsn: 9}
	}
	out := []forgery{
		{"nothing", nil, true},
		{"one byte", []byte{1}, true},
		{"zeros", make([]byte, 16), true},
		{"as many as may be", make([]byte, 700), true},
		{"one more than may be", make([]byte, 701), false},
		{"a first word under the last tag", frame(0, word(1000000)), false},
		{"a first word under its own tag", frame(0, word(line.Tag)), false},
		{"a first word under 1", frame(0, word(1)), false},
		{"a first word beyond", frame(0, word(1000001)), true},
		{"a first word far beyond", frame(0, word(4294967295)), true},
		{"a cookie", frame(1000001, impl.FrmChunk{Kind: impl.FrmEcho, Body: cookie}), false},
		{"a cookie under no tag that is given", frame(4294967295, impl.FrmChunk{Kind: impl.FrmEcho, Body: []byte{1}}), false},
		{"a cookie behind something else", frame(1000001, wordOf(impl.FrmBeat), impl.FrmChunk{Kind: impl.FrmEcho, Body: cookie}), true},
	}
	for _, kind := range kindsKnown {
		if kind == impl.FrmInit || kind == impl.FrmEcho {
			continue
		}
		for tag, could := range map[int]bool{1: false, line.Tag: false, line.PeerTag: false, 999999: false, 1000000: false, 1000001: true, 4294967295: true} {
			out = append(out, forgery{"kind " + strconv.Itoa(kind) + " under " + strconv.Itoa(tag), frame(tag, wordOf(kind)), could})
		}
	}
	turned := frame(line.Tag, wordOf(impl.FrmAbort))
	turned[5]++
	return append(out, forgery{"a turned byte", turned, true})
}

func TestTrunkForges(t *testing.T) {
	w := oneOf(impl.KeyShare, 2)
	w.Air = airOf(1)
	for _, e := range []impl.TrunkEnd{w.Gates[0].Ends[0], w.Hosts[1].Ends[0]} {
		for _, f := range forgeries(e) {
			v := checkStep(t, w, evForge(2*e.Line.Peer, 2*e.Line.Me, f.bytes))
			want := roomy(w)
			if f.could {
				want.Air = append(want.Air, impl.TrunkAir{From: 2 * e.Line.Peer, To: 2 * e.Line.Me, Bytes: f.bytes})
			}
			if !sameValue(v, want) {
				t.Errorf("%s: %v", f.name, v.Air)
			}
		}
	}
	for _, at := range [][2]int{{-1, 0}, {0, -1}, {2000, 0}, {0, 2000}, {math.MinInt, 2}, {2, math.MaxInt}} {
		checkNothing(t, w, evForge(at[0], at[1], []byte{1}))
	}
	for _, at := range [][2]int{{0, 0}, {1999, 1999}, {0, 1999}} {
		if v := checkStep(t, w, evForge(at[0], at[1], []byte{1})); len(v.Air) != 2 {
			t.Errorf("%v: %v", at, v.Air)
		}
	}
}

// P6: what is forged, and what that is answered, turns nothing but how many tags were given.
func TestTrunkForgedTurnsNothing(t *testing.T) {
	answered := 0
	for name, w := range map[string]impl.TrunkWorld{"served": oneOf(impl.KeyShare, 2), "busy": busyWorld(), "fallen": fallenWorld(), "begins": happens(openWorld(keyOf(1), []int{1}, []impl.TrunkWish{{Name: 11}}), evTick(1))} {
		w.Air = nil
		for _, e := range allEnds(w) {
			for _, f := range forgeries(e) {
				if !f.could {
					continue
				}
				for way := range 2 {
					v := checkStep(t, w, evForge(2*e.Line.Peer+way, 2*e.Line.Me+way, f.bytes))
					for n := 0; len(v.Air) > 0; n++ {
						answered += min(n, 1)
						v = checkStep(t, v, evBring(0))
						if n > 9 {
							t.Fatalf("%s: %s is answered without end", name, f.name)
						}
					}
					if !sameValue(tagless(v), tagless(w)) {
						t.Fatalf("%s: %s:\n%v is\n%v", name, f.name, w, v)
					}
				}
			}
		}
	}
	if answered < 20 {
		t.Errorf("%d answers", answered)
	}
}

func allEnds(w impl.TrunkWorld) []impl.TrunkEnd {
	var out []impl.TrunkEnd
	for _, g := range w.Gates {
		out = append(out, g.Ends...)
	}
	for _, h := range w.Hosts {
		out = append(out, h.Ends...)
	}
	return out
}

// tagless is a world without how many tags were given.
func tagless(w impl.TrunkWorld) impl.TrunkWorld {
	w = roomy(w)
	for at := range w.Gates {
		w.Gates[at].Tags = 0
	}
	for at := range w.Hosts {
		w.Hosts[at].Tags = 0
	}
	return w
}

// The worlds of TestTrunkWorld and others: what is answered is new memory, and nothing is written into a world or an event.
func TestTrunkWorldMemory(t *testing.T) {
	worlds := goodWorlds()
	worlds["bad"] = badWorlds()["one more got"]
	for name, plain := range worlds {
		w := roomy(plain)
		checkMemory(t, name, func() []any {
			impl.TrunkWorldOk(w)
			return nil
		}, w)
		for kind := range 14 {
			for at := range 6 {
				e := impl.TrunkEvent{Kind: kind, At: at, N: 1, Unit: give(9, 105, 1), Word: impl.MsgWord{Kind: impl.MsgOff, Num: 77, Body: []byte{1}}, Air: impl.TrunkAir{From: 2, To: 22, Bytes: []byte{1, 2, 3}}}
				if kind == impl.TrunkWants {
					e.Word.Kind = []int{impl.MsgActive, impl.MsgIdle}[at%2]
				}
				own := roomy(e)
				checkMemory(t, name, func() []any { return []any{impl.TrunkStep(w, own)} }, w, own)
			}
		}
	}
	for _, plain := range append(goodKeys(), badKeys()["nothing"]) {
		keys, gates, hosts := roomy(plain), roomy([]int{1, 5}), roomy([]impl.TrunkWish{{Name: 11, Wish: []int{1, 2}}, {Name: 12}})
		checkMemory(t, "TrunkNew", func() []any {
			w, _ := impl.TrunkNew(keys, gates, hosts)
			return []any{w}
		}, keys, gates, hosts)
	}
}
