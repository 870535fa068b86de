package tests

import (
	"fmt"
	"math"
	"math/rand"
	"slices"
	"strings"
	"testing"

	"loop.example/trunk/impl"
)

// slowHost is a server's book that does what the document tells, line by line, and what it says.
type slowHost struct {
	book impl.AspBook
	says []impl.SrvSay
}

func (h *slowHost) say(at int, w impl.MsgWord) {
	h.says = append(h.says, impl.SrvSay{Server: h.book.Gates[at].Gate, Word: w})
}

func (h *slowHost) ask(at int, ctx int) {
	g := &h.book.Gates[at]
	if !slices.Contains(h.book.Wish, ctx) || slices.Contains(g.Asked, ctx) || slices.Contains(g.Active, ctx) {
		return
	}
	g.Asked = more(g.Asked, ctx)
	h.say(at, impl.MsgWord{Kind: 5, Ctx: ctx})
}

func (h *slowHost) hear(at int, w impl.MsgWord) {
	g := &h.book.Gates[at]
	if !g.Up {
		if w.Kind == 2 {
			g.Up = true
			for _, ctx := range h.book.Wish {
				h.ask(at, ctx)
			}
		}
		return
	}
	switch w.Kind {
	case 4:
		*g = impl.AspGate{Gate: g.Gate}
	case 6:
		g.Asked, g.Active = less(g.Asked, w.Ctx), more(g.Active, w.Ctx)
		if !slices.Contains(h.book.Wish, w.Ctx) {
			h.say(at, impl.MsgWord{Kind: 7, Ctx: w.Ctx})
		}
	case 8:
		g.Active = less(g.Active, w.Ctx)
		h.ask(at, w.Ctx)
	case 9:
		if w.Num != 2 && w.Num != 0 {
			g.Active = less(g.Active, w.Ctx)
		}
		if w.Num != 2 && w.Num != 0 && w.Num != 4 {
			h.ask(at, w.Ctx)
		}
	case 11:
		if w.Num <= 999 && len(g.Off) < 6 {
			g.Off = more(g.Off, w.Num)
		}
	case 12:
		g.Off = less(g.Off, w.Num)
	case 13:
		if w.Num <= 3 {
			g.Jam = w.Num
		}
	}
}

func slowAspOk(b impl.AspBook) bool {
	var names []int
	for _, g := range b.Gates {
		names = append(names, g.Gate)
		if !rising(g.Active, 1, 9, 9) || !rising(g.Asked, 1, 9, 9) || !rising(g.Off, 0, 999, 6) || g.Jam < 0 || g.Jam > 3 {
			return false
		}
		if !g.Up && !sameValue(g, impl.AspGate{Gate: g.Gate}) {
			return false
		}
	}
	return rising(b.Wish, 1, 9, 4) && rising(names, 0, 65535, 2)
}

// slowAt lets something happen at a gateway, if it is one.
func slowAt(b impl.AspBook, gate int, happens func(h *slowHost, at int)) (impl.AspBook, []impl.MsgWord) {
	if !slowAspOk(b) {
		return impl.AspBook{}, nil
	}
	h := &slowHost{book: roomy(b)}
	for at, g := range b.Gates {
		if g.Gate == gate {
			happens(h, at)
		}
	}
	var words []impl.MsgWord
	for _, say := range h.says {
		words = append(words, say.Word)
	}
	return h.book, words
}

func slowAspRise(b impl.AspBook, gate int) (impl.AspBook, []impl.MsgWord) {
	return slowAt(b, gate, func(h *slowHost, at int) {
		h.book.Gates[at] = impl.AspGate{Gate: gate}
		h.say(at, impl.MsgWord{Kind: 1})
	})
}

func slowAspGone(b impl.AspBook, gate int) impl.AspBook {
	b, _ = slowAt(b, gate, func(h *slowHost, at int) { h.book.Gates[at] = impl.AspGate{Gate: gate} })
	return b
}

func slowAspHear(b impl.AspBook, gate int, w impl.MsgWord) (impl.AspBook, []impl.MsgWord, []impl.SrvUnit) {
	var got []impl.SrvUnit
	b, says := slowAt(b, gate, func(h *slowHost, at int) {
		if slowMsgOk(w) && w.Kind == 10 {
			got = append(got, impl.SrvUnit{Mark: w.Num, Dest: w.Dest, Sls: w.Sls, Body: w.Body})
		} else if slowMsgOk(w) {
			h.hear(at, w)
		}
	})
	return b, says, got
}

func slowAspWant(b impl.AspBook, ctx int, want bool) (impl.AspBook, []impl.SrvSay) {
	if !slowAspOk(b) {
		return impl.AspBook{}, nil
	}
	h := &slowHost{book: roomy(b)}
	if slices.Contains(b.Wish, ctx) == want || ctx < 1 || ctx > 9 || want && len(b.Wish) == 4 {
		return h.book, nil
	}
	h.book.Wish = less(b.Wish, ctx)
	if want {
		h.book.Wish = more(b.Wish, ctx)
	}
	for at, g := range h.book.Gates {
		if want && g.Up {
			h.ask(at, ctx)
		}
		if !want && slices.Contains(g.Active, ctx) {
			h.say(at, impl.MsgWord{Kind: 7, Ctx: ctx})
		}
	}
	return h.book, h.says
}

// busyHost knows something of all that may be known.
func busyHost() impl.AspBook {
	return impl.AspBook{Wish: []int{1, 2, 4}, Gates: []impl.AspGate{
		{Gate: 3, Up: true, Active: []int{1, 7}, Asked: []int{2, 9}, Off: []int{5, 150}, Jam: 2},
		{Gate: 8},
	}}
}

func turnedHost(turn func(b *impl.AspBook)) impl.AspBook {
	b := busyHost()
	turn(&b)
	return b
}

// goodHosts are books of servers that are ok, some at bounds.
func goodHosts() map[string]impl.AspBook {
	nine := []int{1, 2, 3, 4, 5, 6, 7, 8, 9}
	return map[string]impl.AspBook{
		"nothing":            {},
		"busy":               busyHost(),
		"no wish":            turnedHost(func(b *impl.AspBook) { b.Wish = nil }),
		"four wishes":        turnedHost(func(b *impl.AspBook) { b.Wish = []int{1, 2, 8, 9} }),
		"no gateways":        turnedHost(func(b *impl.AspBook) { b.Gates = nil }),
		"far gateways":       turnedHost(func(b *impl.AspBook) { b.Gates[0].Gate, b.Gates[1].Gate = 0, 65535 }),
		"six are off":        turnedHost(func(b *impl.AspBook) { b.Gates[0].Off = []int{0, 1, 2, 3, 998, 999} }),
		"five are off":       turnedHost(func(b *impl.AspBook) { b.Gates[0].Off = []int{0, 1, 2, 3, 998} }),
		"most jam":           turnedHost(func(b *impl.AspBook) { b.Gates[0].Jam = 3 }),
		"active for all":     turnedHost(func(b *impl.AspBook) { b.Gates[0].Active, b.Gates[0].Asked = nine, nil }),
		"asked for all":      turnedHost(func(b *impl.AspBook) { b.Gates[0].Active, b.Gates[0].Asked = nil, nine }),
		"both of all":        turnedHost(func(b *impl.AspBook) { b.Gates[0].Active, b.Gates[0].Asked = nine, slices.Clone(nine) }),
		"up, nothing known":  turnedHost(func(b *impl.AspBook) { b.Gates[1].Up = true }),
		"both are up":        turnedHost(func(b *impl.AspBook) { b.Gates[1] = b.Gates[0]; b.Gates[1].Gate = 4 }),
		"active at both":     turnedHost(func(b *impl.AspBook) { b.Gates[1] = impl.AspGate{Gate: 9, Up: true, Active: []int{1, 2}} }),
		"nothing is known":   turnedHost(func(b *impl.AspBook) { b.Gates[0] = impl.AspGate{Gate: 3} }),
		"one gateway, is up": {Wish: []int{5}, Gates: []impl.AspGate{{Gate: 1, Up: true, Asked: []int{5}}}},
	}
}

// badHosts are not ok, each in one of the ways that the document tells.
func badHosts() map[string]impl.AspBook {
	turns := map[string]func(b *impl.AspBook){
		"five wishes":              func(b *impl.AspBook) { b.Wish = []int{1, 2, 3, 4, 5} },
		"a wish twice":             func(b *impl.AspBook) { b.Wish = []int{1, 2, 2} },
		"wishes descend":           func(b *impl.AspBook) { b.Wish = []int{2, 1} },
		"the wish 0":               func(b *impl.AspBook) { b.Wish = []int{0, 1} },
		"a wish below 0":           func(b *impl.AspBook) { b.Wish = []int{-1} },
		"a wish beyond":            func(b *impl.AspBook) { b.Wish = []int{1, 10} },
		"the greatest wish":        func(b *impl.AspBook) { b.Wish = []int{math.MaxInt} },
		"three gateways":           func(b *impl.AspBook) { b.Gates = append(b.Gates, impl.AspGate{Gate: 9}) },
		"a gateway twice":          func(b *impl.AspBook) { b.Gates[1].Gate = 3 },
		"gateways descend":         func(b *impl.AspBook) { b.Gates[1].Gate = 2 },
		"a gateway below 0":        func(b *impl.AspBook) { b.Gates[0].Gate = -1 },
		"a gateway beyond":         func(b *impl.AspBook) { b.Gates[1].Gate = 65536 },
		"Active descend":           func(b *impl.AspBook) { b.Gates[0].Active = []int{7, 1} },
		"Active twice":             func(b *impl.AspBook) { b.Gates[0].Active = []int{7, 7} },
		"Active for 0":             func(b *impl.AspBook) { b.Gates[0].Active = []int{0, 1} },
		"Active beyond":            func(b *impl.AspBook) { b.Gates[0].Active = []int{1, 10} },
		"Asked descend":            func(b *impl.AspBook) { b.Gates[0].Asked = []int{7, 1} },
		"Asked twice":              func(b *impl.AspBook) { b.Gates[0].Asked = []int{7, 7} },
		"Asked for 0":              func(b *impl.AspBook) { b.Gates[0].Asked = []int{0, 1} },
		"Asked beyond":             func(b *impl.AspBook) { b.Gates[0].Asked = []int{1, 10} },
		"seven off":                func(b *impl.AspBook) { b.Gates[0].Off = []int{1, 2, 3, 4, 5, 6, 7} },
		"Off twice":                func(b *impl.AspBook) { b.Gates[0].Off = []int{5, 5} },
		"Off descend":              func(b *impl.AspBook) { b.Gates[0].Off = []int{6, 5} },
		"Off below 0":              func(b *impl.AspBook) { b.Gates[0].Off = []int{-1, 5} },
		"Off beyond":               func(b *impl.AspBook) { b.Gates[0].Off = []int{5, 1000} },
		"jam below 0":              func(b *impl.AspBook) { b.Gates[0].Jam = -1 },
		"jam beyond":               func(b *impl.AspBook) { b.Gates[0].Jam = 4 },
		"Active, not Up":           func(b *impl.AspBook) { b.Gates[1].Active = []int{1} },
		"Asked, not Up":            func(b *impl.AspBook) { b.Gates[1].Asked = []int{1} },
		"Off, not Up":              func(b *impl.AspBook) { b.Gates[1].Off = []int{0} },
		"jam, not Up":              func(b *impl.AspBook) { b.Gates[1].Jam = 1 },
		"jam below 0, not Up":      func(b *impl.AspBook) { b.Gates[1].Jam = -1 },
		"one less, and one active": func(b *impl.AspBook) { b.Gates[1].Active, b.Gates[1].Jam = []int{1}, -1 },
		"all known, not Up":        func(b *impl.AspBook) { b.Gates[0].Up = false },
		"bad in the second": func(b *impl.AspBook) {
			b.Gates[1] = impl.AspGate{Gate: 8, Up: true, Asked: []int{3, 2}}
		},
	}
	out := map[string]impl.AspBook{}
	for name, turn := range turns {
		out[name] = turnedHost(turn)
	}
	return out
}

func TestAspMaxGates(t *testing.T) {
	if impl.AspMaxGates != 2 {
		t.Error(impl.AspMaxGates)
	}
}

func TestAspOkOfBooksThatAre(t *testing.T) {
	for name, b := range goodHosts() {
		if !slowAspOk(b) || !impl.AspOk(b) {
			t.Errorf("%s: %v is not ok", name, b)
		}
	}
}

// A book that is not ok has one answer at each function.
func TestAspRefusesBooksThatAreNotOk(t *testing.T) {
	none := impl.AspBook{}
	for name, b := range badHosts() {
		if slowAspOk(b) || impl.AspOk(b) {
			t.Errorf("%s: %v is ok", name, b)
		}
		for _, gate := range []int{3, 8, 99} {
			if got, says := impl.AspRise(b, gate); !sameValue(got, none) || len(says) != 0 {
				t.Errorf("%s: AspRise: %v %v", name, got, says)
			}
			if got := impl.AspGone(b, gate); !sameValue(got, none) {
				t.Errorf("%s: AspGone: %v", name, got)
			}
			for kind := 0; kind <= 16; kind++ {
				if got, says, units := impl.AspHear(b, gate, msgOf(kind)); !sameValue(got, none) || len(says) != 0 || len(units) != 0 {
					t.Errorf("%s: AspHear: %v %v %v", name, got, says, units)
				}
			}
		}
		for ctx := -1; ctx <= 10; ctx++ {
			for _, want := range []bool{false, true} {
				if got, says := impl.AspWant(b, ctx, want); !sameValue(got, none) || len(says) != 0 {
					t.Errorf("%s: AspWant: %v %v", name, got, says)
				}
			}
		}
	}
}

func TestAspOkOfEachNumber(t *testing.T) {
	for name, b := range goodHosts() {
		for at := range numbersOf(&b) {
			for _, n := range append([]int{3, 4, 5, 6, 10, 149, 150, 998, 999, 1000}, wide...) {
				turned := roomy(b)
				*numbersOf(&turned)[at] = n
				if got := impl.AspOk(turned); got != slowAspOk(turned) {
					t.Errorf("%s: %v: ok is %v", name, turned, got)
				}
			}
		}
	}
}

func TestAspOpen(t *testing.T) {
	wishes := [][]int{nil, {}, {1}, {9}, {1, 2, 3, 4}, {1, 5, 8, 9}, {1, 2, 3, 4, 5}, {2, 2}, {3, 2}, {0}, {0, 1}, {10}, {-1, 2}, {math.MinInt}, {math.MaxInt}, make([]int, 500)}
	gates := [][]int{nil, {}, {0}, {7}, {65535}, {1, 2}, {0, 65535}, {1, 2, 3}, {2, 2}, {2, 1}, {-1}, {65536}, {1, 65536}, {math.MinInt}, {math.MaxInt}, make([]int, 500)}
	for _, wish := range wishes {
		for _, names := range gates {
			want := impl.AspBook{Wish: wish}
			for _, name := range names {
				want.Gates = append(want.Gates, impl.AspGate{Gate: name})
			}
			wantOk := slowAspOk(want)
			if !wantOk {
				want = impl.AspBook{}
			}
			if got, ok := impl.AspOpen(wish, names); ok != wantOk || !sameValue(got, want) || ok && !impl.AspOk(got) {
				t.Errorf("%v, %v: %v %v", wish, names, got, ok)
			}
		}
	}
	for _, c := range []struct {
		wish, gates []int
		ok          bool
	}{{[]int{1, 2, 3, 4}, []int{1, 2}, true}, {[]int{1, 2, 3, 4, 5}, []int{1, 2}, false}, {[]int{1, 2, 3, 4}, []int{1, 2, 3}, false}, {nil, nil, true}, {[]int{9}, []int{65535}, true}, {[]int{10}, []int{1}, false}, {[]int{9}, []int{65536}, false}} {
		if _, ok := impl.AspOpen(c.wish, c.gates); ok != c.ok {
			t.Errorf("%v, %v: %v", c.wish, c.gates, ok)
		}
	}
}

// known is what a server knows of its gateways, in short.
func known(b impl.AspBook) string {
	var out []string
	for _, g := range b.Gates {
		text := fmt.Sprintf("%d", g.Gate)
		if g.Up {
			text += fmt.Sprintf(" up %v %v", g.Active, g.Asked)
		}
		if len(g.Off) > 0 || g.Jam > 0 {
			text += fmt.Sprintf(" off %v jam %d", g.Off, g.Jam)
		}
		out = append(out, text)
	}
	return strings.Join(out, ", ")
}

// hostDeed is something that happens to a server's book: what it says, to whom.
type hostDeed func(b impl.AspBook) (impl.AspBook, []impl.SrvSay, []impl.SrvUnit)

// toGate are words as they are said to a gateway.
func toGate(gate int, words []impl.MsgWord) []impl.SrvSay {
	var out []impl.SrvSay
	for _, w := range words {
		out = append(out, impl.SrvSay{Server: gate, Word: w})
	}
	return out
}

func lineUp(gate int) hostDeed {
	return func(b impl.AspBook) (impl.AspBook, []impl.SrvSay, []impl.SrvUnit) {
		b, says := impl.AspRise(b, gate)
		return b, toGate(gate, says), nil
	}
}

func lineGone(gate int) hostDeed {
	return func(b impl.AspBook) (impl.AspBook, []impl.SrvSay, []impl.SrvUnit) {
		return impl.AspGone(b, gate), nil, nil
	}
}

func from(gate int, kind int, ctx int, num int) hostDeed {
	return func(b impl.AspBook) (impl.AspBook, []impl.SrvSay, []impl.SrvUnit) {
		b, says, got := impl.AspHear(b, gate, impl.MsgWord{Kind: kind, Ctx: ctx, Num: num})
		return b, toGate(gate, says), got
	}
}

func data(gate int, u impl.SrvUnit) hostDeed {
	return func(b impl.AspBook) (impl.AspBook, []impl.SrvSay, []impl.SrvUnit) {
		w := impl.MsgWord{Kind: impl.MsgData, Ctx: 1, Num: u.Mark, Dest: u.Dest, Sls: u.Sls, Body: u.Body}
		b, says, got := impl.AspHear(b, gate, w)
		return b, toGate(gate, says), got
	}
}

func wants(ctx int, want bool) hostDeed {
	return func(b impl.AspBook) (impl.AspBook, []impl.SrvSay, []impl.SrvUnit) {
		b, says := impl.AspWant(b, ctx, want)
		return b, says, nil
	}
}

// hostLine is one deed of a story, what is said and got then, and what is known behind it ("" is as it was).
type hostLine struct {
	deed hostDeed
	says string
	got  []impl.SrvUnit
	then string
}

func checkHostStory(t *testing.T, b impl.AspBook, lines []hostLine) impl.AspBook {
	t.Helper()
	for i, line := range lines {
		then := line.then
		if then == "" {
			then = known(b)
		}
		next, says, got := line.deed(b)
		if spoken(says) != line.says || !sameValue(got, line.got) || known(next) != then || !impl.AspOk(next) {
			t.Fatalf("line %d: %q, %v, %q, want %q, %v, %q", i, spoken(says), got, known(next), line.says, line.got, then)
		}
		b = next
	}
	return b
}

// openHost is a server's book at its beginning that must be one.
func openHost(wish []int, gates ...int) impl.AspBook {
	b, ok := impl.AspOpen(wish, gates)
	if !ok {
		panic("no book")
	}
	return b
}

// P29, P48, P62: a server asks for what it wishes; told by hand.
func TestAspStoryOfRanges(t *testing.T) {
	b := checkHostStory(t, openHost([]int{1, 2, 4}, 3, 8), []hostLine{
		// Whoever is not up is heard with MsgUpAck and MsgData alone.
		{deed: from(3, impl.MsgActiveAck, 1, 0), then: "3, 8"},
		{deed: from(3, impl.MsgState, 1, impl.SrvIdle)},
		{deed: from(3, impl.MsgOff, 0, 5)},
		{deed: from(3, impl.MsgJam, 0, 2)},
		{deed: lineUp(3), says: "3 Up"},
		{deed: from(3, impl.MsgUpAck, 0, 0), says: "3 Active 1, 3 Active 2, 3 Active 4", then: "3 up [] [1 2 4], 8"},
		{deed: from(3, impl.MsgUpAck, 0, 0)},
		{deed: from(3, impl.MsgState, 1, impl.SrvIdle)},
		{deed: from(3, impl.MsgState, 2, impl.SrvPending)},
		{deed: from(3, impl.MsgActiveAck, 1, 0), then: "3 up [1] [2 4], 8"},
		{deed: from(3, impl.MsgState, 1, impl.SrvActive)},
		{deed: from(3, impl.MsgState, 1, impl.SrvDown)},
		{deed: from(3, impl.MsgActiveAck, 4, 0), then: "3 up [1 4] [2], 8"},
		// It is taken: nobody fights for it, until nobody serves it, and then once.
		{deed: from(3, impl.MsgState, 1, impl.SrvTaken), then: "3 up [4] [2], 8"},
		{deed: from(3, impl.MsgState, 1, impl.SrvTaken)},
		{deed: from(3, impl.MsgState, 1, impl.SrvActive)},
		{deed: from(3, impl.MsgState, 1, impl.SrvPending), says: "3 Active 1", then: "3 up [4] [1 2], 8"},
		{deed: from(3, impl.MsgState, 1, impl.SrvPending)},
		{deed: from(3, impl.MsgState, 1, impl.SrvIdle)},
		// One that is served, and was pending, is asked for again.
		{deed: from(3, impl.MsgState, 4, impl.SrvPending), says: "3 Active 4", then: "3 up [] [1 2 4], 8"},
		{deed: from(3, impl.MsgActiveAck, 4, 0), then: "3 up [4] [1 2], 8"},
		{deed: from(3, impl.MsgState, 4, impl.SrvIdle), says: "3 Active 4", then: "3 up [] [1 2 4], 8"},
		{deed: from(3, impl.MsgActiveAck, 4, 0), then: "3 up [4] [1 2], 8"},
		{deed: from(3, impl.MsgIdleAck, 4, 0), says: "3 Active 4", then: "3 up [] [1 2 4], 8"},
		{deed: from(3, impl.MsgIdleAck, 4, 0)},
		// What it does not wish it leaves, and does not ask for.
		{deed: from(3, impl.MsgActiveAck, 7, 0), says: "3 Idle 7", then: "3 up [7] [1 2 4], 8"},
		{deed: from(3, impl.MsgActiveAck, 7, 0), says: "3 Idle 7"},
		{deed: from(3, impl.MsgIdleAck, 7, 0), then: "3 up [] [1 2 4], 8"},
		{deed: from(3, impl.MsgState, 7, impl.SrvIdle)},
		{deed: from(3, impl.MsgActiveAck, 1, 0), then: "3 up [1] [2 4], 8"},
		{deed: from(3, impl.MsgActiveAck, 2, 0), then: "3 up [1 2] [4], 8"},
		// The other gateway knows nothing of this one.
		{deed: from(8, impl.MsgUpAck, 0, 0), says: "8 Active 1, 8 Active 2, 8 Active 4", then: "3 up [1 2] [4], 8 up [] [1 2 4]"},
		{deed: from(8, impl.MsgActiveAck, 2, 0), then: "3 up [1 2] [4], 8 up [2] [1 4]"},
		{deed: wants(2, false), says: "3 Idle 2, 8 Idle 2"},
		{deed: wants(2, false)},
		{deed: from(8, impl.MsgIdleAck, 2, 0), then: "3 up [1 2] [4], 8 up [] [1 4]"},
		{deed: wants(4, false)},
		{deed: from(3, impl.MsgActiveAck, 4, 0), says: "3 Idle 4", then: "3 up [1 2 4] [], 8 up [] [1 4]"},
		{deed: wants(2, true), says: "8 Active 2", then: "3 up [1 2 4] [], 8 up [] [1 2 4]"},
		{deed: wants(2, true)},
		{deed: from(3, impl.MsgIdleAck, 2, 0), says: "3 Active 2", then: "3 up [1 4] [2], 8 up [] [1 2 4]"},
		{deed: lineGone(3), then: "3, 8 up [] [1 2 4]"},
		{deed: lineGone(3)},
		{deed: wants(9, true), says: "8 Active 9", then: "3, 8 up [] [1 2 4 9]"},
		{deed: wants(5, true), says: "8 Active 5", then: "3, 8 up [] [1 2 4 5 9]"},
		{deed: wants(6, true)},
		{deed: wants(5, false)},
		{deed: wants(6, true), says: "8 Active 6", then: "3, 8 up [] [1 2 4 5 6 9]"},
		{deed: wants(1, false)},
		{deed: from(3, impl.MsgUpAck, 0, 0), says: "3 Active 2, 3 Active 6, 3 Active 9", then: "3 up [] [2 6 9], 8 up [] [1 2 4 5 6 9]"},
		{deed: lineUp(8), says: "8 Up", then: "3 up [] [2 6 9], 8"},
		{deed: lineUp(8), says: "8 Up"},
		{deed: from(3, impl.MsgDownAck, 0, 0), then: "3, 8"},
		{deed: from(3, impl.MsgDownAck, 0, 0)},
	})
	if !slices.Equal(b.Wish, []int{2, 6, 9}) {
		t.Errorf("%v", b.Wish)
	}
}

// What is off, the jam, and units; told by hand.
func TestAspStoryOfOffAndUnits(t *testing.T) {
	u := impl.SrvUnit{Mark: 1000000, Dest: 999, Sls: 15, Body: counted(12)}
	checkHostStory(t, openHost(nil, 0, 65535), []hostLine{
		{deed: data(0, u), got: []impl.SrvUnit{u}, then: "0, 65535"},
		{deed: data(7, u)},
		{deed: from(65535, impl.MsgUpAck, 0, 0), then: "0, 65535 up [] []"},
		{deed: data(65535, give(0, 0, 0)), got: []impl.SrvUnit{give(0, 0, 0)}},
		{deed: from(65535, impl.MsgOff, 0, 500), then: "0, 65535 up [] [] off [500] jam 0"},
		{deed: from(65535, impl.MsgOff, 0, 500)},
		{deed: from(65535, impl.MsgOff, 0, 1000)},
		{deed: from(65535, impl.MsgOff, 0, 1000000)},
		{deed: from(65535, impl.MsgOff, 0, 999), then: "0, 65535 up [] [] off [500 999] jam 0"},
		{deed: from(65535, impl.MsgOff, 0, 0), then: "0, 65535 up [] [] off [0 500 999] jam 0"},
		{deed: from(65535, impl.MsgOff, 0, 3), then: "0, 65535 up [] [] off [0 3 500 999] jam 0"},
		{deed: from(65535, impl.MsgOff, 0, 2), then: "0, 65535 up [] [] off [0 2 3 500 999] jam 0"},
		{deed: from(65535, impl.MsgOff, 0, 1), then: "0, 65535 up [] [] off [0 1 2 3 500 999] jam 0"},
		{deed: from(65535, impl.MsgOff, 0, 4)},
		{deed: from(65535, impl.MsgOff, 0, 1)},
		{deed: from(65535, impl.MsgOn, 0, 4)},
		{deed: from(65535, impl.MsgOn, 0, 1000)},
		{deed: from(65535, impl.MsgOn, 0, 3), then: "0, 65535 up [] [] off [0 1 2 500 999] jam 0"},
		{deed: from(65535, impl.MsgOff, 0, 4), then: "0, 65535 up [] [] off [0 1 2 4 500 999] jam 0"},
		{deed: from(65535, impl.MsgJam, 0, 3), then: "0, 65535 up [] [] off [0 1 2 4 500 999] jam 3"},
		{deed: from(65535, impl.MsgJam, 0, 3)},
		{deed: from(65535, impl.MsgJam, 0, 4)},
		{deed: from(65535, impl.MsgJam, 0, 1000000)},
		{deed: from(65535, impl.MsgJam, 0, 1), then: "0, 65535 up [] [] off [0 1 2 4 500 999] jam 1"},
		{deed: data(65535, u), got: []impl.SrvUnit{u}},
		{deed: from(65535, impl.MsgAsk, 0, 1)},
		{deed: from(65535, impl.MsgBad, 0, 1)},
		{deed: from(65535, impl.MsgUp, 0, 0)},
		{deed: from(65535, impl.MsgDown, 0, 0)},
		{deed: from(65535, impl.MsgActive, 3, 0)},
		{deed: from(65535, impl.MsgIdle, 3, 0)},
		{deed: from(65535, impl.MsgUpAck, 0, 0)},
		{deed: from(65535, impl.MsgJam, 0, 0), then: "0, 65535 up [] [] off [0 1 2 4 500 999] jam 0"},
		{deed: from(0, impl.MsgUpAck, 0, 0), then: "0 up [] [], 65535 up [] [] off [0 1 2 4 500 999] jam 0"},
		{deed: lineUp(65535), says: "65535 Up", then: "0 up [] [], 65535"},
	})
}

// MsgState with each state, of a range that is active, asked for, both, or neither, wished or not.
func TestAspHearOfEachState(t *testing.T) {
	for state := -1; state <= 8; state++ {
		for set := range 8 {
			b := impl.AspBook{Gates: []impl.AspGate{{Gate: 3, Up: true, Active: []int{4}, Asked: []int{5, 7}}}}
			active, asked, wished := set&1 != 0, set&2 != 0, set&4 != 0
			if active {
				b.Gates[0].Active = []int{4, 6}
			}
			if asked {
				b.Gates[0].Asked = []int{5, 6, 7}
			}
			if wished {
				b.Wish = []int{6}
			}
			want := roomy(b)
			wantSays := ""
			// One of the states in which somebody serves it, or of no state at all, leaves it as it is.
			lost := state == 1 || state >= 3
			if lost {
				want.Gates[0].Active = []int{4}
			}
			if lost && state != 4 && wished && !asked {
				want.Gates[0].Asked, wantSays = []int{5, 6, 7}, "3 Active 6"
			}
			got, says, units := impl.AspHear(b, 3, impl.MsgWord{Kind: impl.MsgState, Ctx: 6, Num: state})
			if spoken(toGate(3, says)) != wantSays || len(units) != 0 || !sameValue(got, want) {
				t.Errorf("state %d of %v: %v %v, want %v %q", state, b, got, says, want, wantSays)
			}
		}
	}
}

func TestAspWantThatTurnsNothing(t *testing.T) {
	b := busyHost()
	full := turnedHost(func(b *impl.AspBook) { b.Wish = []int{1, 2, 4, 5} })
	for _, c := range []struct {
		name string
		b    impl.AspBook
		ctx  int
		want bool
	}{
		{"it is wished", b, 1, true}, {"the last one is wished", b, 4, true}, {"it is not wished, and active", b, 7, false}, {"it is not wished", b, 3, false},
		{"0", b, 0, true}, {"0, no more", b, 0, false}, {"below 0", b, -1, true}, {"beyond", b, 10, true}, {"beyond, no more", b, 10, false},
		{"far", b, math.MaxInt, true}, {"far below", b, math.MinInt, true}, {"one that wraps", b, 3 + 256, true},
		{"one more than may be", full, 3, true}, {"the fifth", full, 9, true}, {"it is one of four", full, 5, true},
	} {
		if got, says := impl.AspWant(c.b, c.ctx, c.want); len(says) != 0 || !sameValue(got, c.b) {
			t.Errorf("%s: %v %v", c.name, got, says)
		}
	}
}

// One that is no gateway of the book, or a message that is not ok, turns nothing.
func TestAspOfNobodyAndOfBadMessages(t *testing.T) {
	for name, b := range goodHosts() {
		for _, gate := range append([]int{2, 4, 65536 + 3, 3 - 65536}, wide...) {
			if slices.ContainsFunc(b.Gates, func(g impl.AspGate) bool { return g.Gate == gate }) {
				continue
			}
			if got, says := impl.AspRise(b, gate); len(says) != 0 || !sameValue(got, b) {
				t.Errorf("%s: %d rises: %v %v", name, gate, got, says)
			}
			if got := impl.AspGone(b, gate); !sameValue(got, b) {
				t.Errorf("%s: %d is gone: %v", name, gate, got)
			}
			for kind := 1; kind <= 15; kind++ {
				if got, says, units := impl.AspHear(b, gate, msgOf(kind)); len(says) != 0 || len(units) != 0 || !sameValue(got, b) {
					t.Errorf("%s: %d, kind %d: %v %v", name, gate, kind, says, units)
				}
			}
		}
	}
	for _, w := range badMsgs() {
		for _, gate := range []int{3, 8, 99} {
			if got, says, units := impl.AspHear(busyHost(), gate, w); len(says) != 0 || len(units) != 0 || !sameValue(got, busyHost()) {
				t.Errorf("%v: %v %v", w, says, units)
			}
		}
	}
}

// checkHostHear holds AspHear against the slow reading, and against P29, P48 and P62.
func checkHostHear(t *testing.T, b impl.AspBook, gate int, w impl.MsgWord) impl.AspBook {
	t.Helper()
	got, says, units := impl.AspHear(b, gate, w)
	if want, wantSays, wantUnits := slowAspHear(b, gate, w); !sameValue(got, want) || !sameValue(says, wantSays) || !sameValue(units, wantUnits) {
		t.Fatalf("%v, %d, %v:\n%v %v %v, want\n%v %v %v", b, gate, w, got, says, units, want, wantSays, wantUnits)
	}
	if !slowAspOk(got) || !impl.AspOk(got) {
		t.Fatalf("%v is not ok", got)
	}
	at := slices.IndexFunc(b.Gates, func(g impl.AspGate) bool { return g.Gate == gate })
	asks := 0
	for _, said := range says {
		if said.Kind != impl.MsgActive {
			continue
		}
		asks++
		was, is := b.Gates[at], got.Gates[at]
		if !slices.Contains(b.Wish, said.Ctx) || slices.Contains(was.Asked, said.Ctx) || !slices.Contains(is.Asked, said.Ctx) || slices.Contains(is.Active, said.Ctx) {
			t.Fatalf("%v, %v: it asks for %d", b, w, said.Ctx)
		}
	}
	if w.Kind == impl.MsgState && w.Num == impl.SrvTaken && asks > 0 {
		t.Fatalf("%v, %v: it fights", b, w)
	}
	if slowMsgOk(w) && w.Kind == impl.MsgUpAck && at >= 0 && !b.Gates[at].Up && (asks != len(b.Wish) || !slices.Equal(got.Gates[at].Asked, b.Wish)) {
		t.Fatalf("%v, %v: it asks for %v", b, w, says)
	}
	return got
}

// checkHostLine says that behind the rise and the end of a line nothing is known of the gateway, and of the others all (P62).
func checkHostLine(t *testing.T, b impl.AspBook, gate int) (impl.AspBook, impl.AspBook) {
	t.Helper()
	risen, says := impl.AspRise(b, gate)
	if want, wantSays := slowAspRise(b, gate); !sameValue(risen, want) || !sameValue(says, wantSays) {
		t.Fatalf("%v, %d rises: %v %v, want %v %v", b, gate, risen, says, want, wantSays)
	}
	ended := impl.AspGone(b, gate)
	if want := slowAspGone(b, gate); !sameValue(ended, want) || !sameValue(ended, risen) {
		t.Fatalf("%v, %d is gone: %v, want %v", b, gate, ended, want)
	}
	for at, g := range b.Gates {
		want := g
		if g.Gate == gate {
			want = impl.AspGate{Gate: gate}
		}
		if !sameValue(risen.Gates[at], want) {
			t.Fatalf("%v, %d rises: %v", b, gate, risen)
		}
	}
	return risen, ended
}

func checkHostWant(t *testing.T, b impl.AspBook, ctx int, want bool) impl.AspBook {
	t.Helper()
	got, says := impl.AspWant(b, ctx, want)
	if wantBook, wantSays := slowAspWant(b, ctx, want); !sameValue(got, wantBook) || !sameValue(says, wantSays) {
		t.Fatalf("%v, %d, %v:\n%v %v, want\n%v %v", b, ctx, want, got, says, wantBook, wantSays)
	}
	if !slowAspOk(got) || !impl.AspOk(got) {
		t.Fatalf("%v is not ok", got)
	}
	return got
}

// hostWords are messages of each kind, with the ranges 1 to 3, and with numbers that matter.
func hostWords() []impl.MsgWord {
	var out []impl.MsgWord
	for kind := 1; kind <= 15; kind++ {
		for ctx := 1; ctx <= 3; ctx++ {
			for _, num := range []int{0, 1, 2, 3, 4, 5, 6, 999, 1000, 1000000} {
				w := msgOf(kind)
				if slices.Contains(msgRanged, kind) {
					w.Ctx = ctx
				}
				if slices.Contains(msgNumbered, kind) {
					w.Num = num
				}
				out = append(out, w)
			}
		}
	}
	return out
}

// P29, P48, P62: each message, in each book of one gateway with up to two wishes, active and asked for some of three ranges.
func TestAspHearOfAllBooks(t *testing.T) {
	some := func(set int) []int {
		var out []int
		for ctx := 1; ctx <= 3; ctx++ {
			if set>>(ctx-1)&1 == 1 {
				out = append(out, ctx)
			}
		}
		return out
	}
	words := hostWords()
	for wish := range 8 {
		for set := range 65 {
			b := impl.AspBook{Wish: some(wish), Gates: []impl.AspGate{{Gate: 5}}}
			if set < 64 {
				b.Gates[0] = impl.AspGate{Gate: 5, Up: true, Active: some(set % 8), Asked: some(set / 8), Off: []int{1, 2, 3, 4, 5}[:set%6], Jam: set % 4}
			}
			for _, w := range words {
				checkHostHear(t, b, 5, w)
			}
			checkHostLine(t, b, 5)
			for ctx := 0; ctx <= 4; ctx++ {
				checkHostWant(t, b, ctx, true)
				checkHostWant(t, b, ctx, false)
			}
		}
	}
	for _, b := range goodHosts() {
		for _, gate := range []int{0, 1, 3, 4, 8, 9, 65535} {
			for _, w := range words {
				checkHostHear(t, b, gate, w)
			}
			checkHostLine(t, b, gate)
		}
		for ctx := -1; ctx <= 11; ctx++ {
			checkHostWant(t, b, ctx, true)
			checkHostWant(t, b, ctx, false)
		}
	}
}

// P29, P48, P62: along many deeds by chance a book stays ok, and is as the slow reading has it.
func TestAspAlongManyDeeds(t *testing.T) {
	chance := rand.New(rand.NewSource(14))
	bad := badMsgs()
	for range 60 {
		b := openHost([]int{2, 5}, 3, 8)
		for range 400 {
			gate := []int{3, 8, 3, 8, 3, 8, 99}[chance.Intn(7)]
			ctx := 1 + chance.Intn(9)
			switch n := chance.Intn(100); {
			case n < 10:
				b = checkHostHear(t, b, gate, impl.MsgWord{Kind: impl.MsgUpAck})
			case n < 30:
				b = checkHostHear(t, b, gate, impl.MsgWord{Kind: impl.MsgActiveAck, Ctx: ctx})
			case n < 50:
				b = checkHostHear(t, b, gate, impl.MsgWord{Kind: impl.MsgState, Ctx: ctx, Num: chance.Intn(6)})
			case n < 60:
				b = checkHostHear(t, b, gate, impl.MsgWord{Kind: impl.MsgIdleAck, Ctx: ctx})
			case n < 75:
				kind := impl.MsgOff + chance.Intn(3)
				b = checkHostHear(t, b, gate, impl.MsgWord{Kind: kind, Num: []int{0, 1, 2, 3, 4, 5, 6, 7, 999, 1000}[chance.Intn(10)]})
			case n < 77:
				b, _ = checkHostLine(t, b, gate)
			case n < 79:
				_, b = checkHostLine(t, b, gate)
			case n < 80:
				b = checkHostHear(t, b, gate, impl.MsgWord{Kind: impl.MsgDownAck})
			case n < 94:
				b = checkHostWant(t, b, chance.Intn(12)-1, chance.Intn(2) == 0)
			case n < 98:
				b = checkHostHear(t, b, gate, msgOf(1+chance.Intn(15)))
			default:
				b = checkHostHear(t, b, gate, bad[chance.Intn(len(bad))])
			}
		}
	}
}

func TestAspMemory(t *testing.T) {
	for _, plain := range goodHosts() {
		b := roomy(plain)
		for _, gate := range []int{3, 8, 1, 99} {
			checkMemory(t, "AspRise", func() []any {
				got, says := impl.AspRise(b, gate)
				return []any{got, says}
			}, b)
			checkMemory(t, "AspGone", func() []any { return []any{impl.AspGone(b, gate)} }, b)
			for _, word := range append(hostWords(), impl.MsgWord{Kind: impl.MsgUpAck, Body: []byte{1}}) {
				w := roomy(word)
				checkMemory(t, "AspHear", func() []any {
					got, says, units := impl.AspHear(b, gate, w)
					return []any{got, says, units}
				}, b, w)
			}
		}
		for ctx := 0; ctx <= 10; ctx++ {
			for _, want := range []bool{false, true} {
				checkMemory(t, "AspWant", func() []any {
					got, says := impl.AspWant(b, ctx, want)
					return []any{got, says}
				}, b)
			}
		}
	}
	for _, plain := range badHosts() {
		b := roomy(plain)
		checkMemory(t, "AspOk", func() []any {
			impl.AspOk(b)
			return nil
		}, b)
	}
	wish, gates := roomy([]int{2, 5}), roomy([]int{3, 8})
	checkMemory(t, "AspOpen", func() []any {
		got, _ := impl.AspOpen(wish, gates)
		return []any{got}
	}, wish, gates)
}

// room is a gateway and its servers, with all that is said between them under way, in order, line by line.
type room struct {
	t     *testing.T
	gate  impl.SrvBook
	hosts map[int]impl.AspBook
	up    map[int][]impl.MsgWord
	down  map[int][]impl.MsgWord
}

const roomGate = 1

func newRoom(t *testing.T, keys []impl.KeyRow, wishes map[int][]int) *room {
	r := &room{t: t, hosts: map[int]impl.AspBook{}, up: map[int][]impl.MsgWord{}, down: map[int][]impl.MsgWord{}}
	var names []int
	for name, wish := range wishes {
		names = append(names, name)
		r.hosts[name] = openHost(wish, roomGate)
	}
	slices.Sort(names)
	r.gate = openBook(keys, names...)
	return r
}

func (r *room) gateSays(says []impl.SrvSay) {
	for _, say := range says {
		r.down[say.Server] = append(r.down[say.Server], say.Word)
	}
}

func (r *room) rise(name int) {
	b, says := impl.AspRise(r.hosts[name], roomGate)
	r.hosts[name], r.up[name], r.down[name] = b, says, nil
}

// fall ends the line to a server: what is under way is lost.
func (r *room) fall(name int) {
	r.up[name], r.down[name] = nil, nil
	r.hosts[name] = impl.AspGone(r.hosts[name], roomGate)
	b, says := impl.SrvGone(r.gate, name)
	r.gate = b
	r.gateSays(says)
	r.down[name] = nil
}

func (r *room) want(name int, ctx int, want bool) {
	b, says := impl.AspWant(r.hosts[name], ctx, want)
	r.hosts[name] = b
	for _, say := range says {
		r.up[name] = append(r.up[name], say.Word)
	}
}

// bring lets the next word of one line, in one direction, be heard; false, if there is none.
func (r *room) bring(name int, toGate bool) bool {
	if toGate && len(r.up[name]) > 0 {
		b, says := impl.SrvHear(r.gate, name, r.up[name][0])
		r.gate, r.up[name] = b, r.up[name][1:]
		r.gateSays(says)
		return true
	}
	if !toGate && len(r.down[name]) > 0 {
		b, says, _ := impl.AspHear(r.hosts[name], roomGate, r.down[name][0])
		r.hosts[name], r.down[name] = b, r.down[name][1:]
		r.up[name] = append(r.up[name], says...)
		return true
	}
	return false
}

// calm brings all, by chance, until nothing is under way; servers that fight would never come to that.
func (r *room) calm(chance *rand.Rand) {
	for range 2000 {
		var some [][2]int
		for _, s := range r.gate.Servers {
			if len(r.up[s.Server]) > 0 {
				some = append(some, [2]int{s.Server, 1})
			}
			if len(r.down[s.Server]) > 0 {
				some = append(some, [2]int{s.Server, 0})
			}
		}
		if len(some) == 0 {
			return
		}
		next := some[chance.Intn(len(some))]
		r.bring(next[0], next[1] == 1)
	}
	r.t.Fatalf("there is no end of words: %v, %v", r.gate, r.hosts)
}

// agree says that both sides know the same, and that each range is served just if somebody wishes it.
func (r *room) agree() {
	for at, row := range r.gate.Keys {
		wished := false
		for _, b := range r.hosts {
			wished = wished || b.Gates[0].Up && slices.Contains(b.Wish, row.Ctx)
		}
		if (r.gate.Ranges[at].State == impl.SrvActive) != wished {
			r.t.Fatalf("range %d is wished: %v, in %v, %v", row.Ctx, wished, r.gate, r.hosts)
		}
	}
	for _, s := range r.gate.Servers {
		g := r.hosts[s.Server].Gates[0]
		if g.Up != s.Up || !slices.Equal(g.Active, s.Active) || s.Up && (!slices.Equal(g.Off, r.gate.Off) || g.Jam != r.gate.Jam) {
			r.t.Fatalf("server %d: %v, in %v", s.Server, g, r.gate)
		}
	}
}

// P48: servers that wish the same range do not fight for it: all that is said comes to an end, and then both sides know the same.
func TestAspAndSrvComeToAnEnd(t *testing.T) {
	chance := rand.New(rand.NewSource(48))
	for walk := range 200 {
		keys := fourKeys()
		for i := range keys {
			keys[i].Mode = []int{impl.KeyOne, impl.KeyOne, 1 + chance.Intn(3)}[chance.Intn(3)]
		}
		r := newRoom(t, keys, map[int][]int{11: {1, 2}, 12: {1, 7}, 13: {1, 2, 4, 7}})
		for range 30 {
			name := 11 + chance.Intn(3)
			switch chance.Intn(8) {
			case 0:
				r.fall(name)
				r.rise(name)
			case 1:
				r.want(name, []int{1, 2, 4, 7}[chance.Intn(4)], chance.Intn(2) == 0)
			case 2:
				b, says := impl.SrvTell(r.gate, impl.MsgWord{Kind: impl.MsgOff + chance.Intn(3), Num: chance.Intn(4)})
				r.gate = b
				r.gateSays(says)
			case 3:
				b, says, _ := impl.SrvTick(r.gate)
				r.gate = b
				r.gateSays(says)
			default:
				r.bring(name, chance.Intn(2) == 0)
			}
		}
		for name := 11; name <= 13; name++ {
			r.fall(name)
			r.rise(name)
		}
		r.calm(chance)
		if !impl.SrvOk(r.gate) {
			t.Fatalf("walk %d: %v", walk, r.gate)
		}
		r.agree()
	}
}
