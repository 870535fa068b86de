package tests

import (
	"math"
	"slices"
	"strconv"
	"sync"
	"testing"

	"loop.example/trunk/impl"
)

// slowNodeOk is what is asked of both kinds of nodes.
func slowNodeOk(name int, up bool, tags int, falls int, ends []impl.TrunkEnd, peers []int, known []bool) bool {
	if name < 1 || name > 999 || tags < 0 || tags > 1000000 || falls < 0 || falls > 1000 || len(ends) != len(peers) {
		return false
	}
	for at, e := range ends {
		if !slowTrunkOk(e) || e.Line.Me != name || e.Line.Peer != peers[at] {
			return false
		}
		if e.Line.Secret != 1+1000*name+falls || e.Line.Wish != 3 || e.Line.Tag > tags || e.Line.Last > tags {
			return false
		}
		if known[at] && e.Line.State != 3 || !up && e.Line.State != 0 {
			return false
		}
	}
	return true
}

func slowGateOk(g impl.TrunkGate) bool {
	if !slowSrvOk(g.Book) {
		return false
	}
	var peers []int
	var known []bool
	for _, s := range g.Book.Servers {
		peers, known = append(peers, s.Server), append(known, s.Up)
	}
	for _, r := range g.Book.Ranges {
		if !g.Up && r.State != 0 {
			return false
		}
	}
	return slowNodeOk(g.Name, g.Up, g.Tags, g.Falls, g.Ends, peers, known)
}

func slowHostOk(h impl.TrunkHost) bool {
	if !slowAspOk(h.Book) {
		return false
	}
	var peers []int
	var known []bool
	for _, g := range h.Book.Gates {
		peers, known = append(peers, g.Gate), append(known, g.Up)
	}
	return slowNodeOk(h.Name, h.Up, h.Tags, h.Falls, h.Ends, peers, known)
}

// busyWorld is one in which something is going on at each node.
func busyWorld() impl.TrunkWorld {
	return roomy(busyOnce())
}

var busyOnce = sync.OnceValue(func() impl.TrunkWorld {
	w := servedWorld(fourKeys(), []int{1, 5}, []impl.TrunkWish{{Name: 11, Wish: []int{1, 2, 4}}, {Name: 12, Wish: []int{2, 4}}, {Name: 13, Wish: []int{7}}})
	for at := range 2 {
		w = happens(w, evTell(at, impl.MsgOff, 7+at), evTell(at, impl.MsgJam, 1+at))
	}
	for i := range 14 {
		w = happens(w, evGive(i%2, []int{5, 105, 205, 305}[i%4], i%5))
	}
	w = happens(w, evClose(0, 2, true), evGive(0, 306, 1), evWant(3, 1, true), evLose(0), evBring(1), evTick(1), evClock())
	return happens(w, evFall(2), evRise(2), evTick(2), evBring(0))
})

// fallenWorld has a gateway and a server that are not Up, and others that are.
func fallenWorld() impl.TrunkWorld {
	return happens(busyWorld(), evFall(0), evFall(3), evTick(1), evTick(4))
}

func goodGates() map[string]impl.TrunkGate {
	out := map[string]impl.TrunkGate{}
	for name, w := range goodWorlds() {
		for at, g := range w.Gates {
			out[name+" "+strconv.Itoa(at)] = g
		}
	}
	lone := openWorld(fourKeys(), []int{999}, nil).Gates[0]
	out["without servers"] = lone
	lone.Up, lone.Tags, lone.Falls = false, 1000000, 1000
	out["without servers, not Up"] = lone
	lone.Name = 1
	out["with the first name"] = lone
	lone.Book = openBook(nil)
	out["without keys"] = lone
	// The name of a server is asked for by the book alone; a node of a world has another one.
	near := openWorld(fourKeys(), []int{1}, []impl.TrunkWish{{Name: 11}}).Gates[0]
	for _, name := range []int{0, 1000, 32767} {
		far := roomy(near)
		far.Book.Servers[0].Server = name
		far.Ends[0] = impl.TrunkEndOpen(1, name, 1001, 3)
		out["with the server "+strconv.Itoa(name)] = far
	}
	return out
}

func goodNodeHosts() map[string]impl.TrunkHost {
	out := map[string]impl.TrunkHost{}
	for name, w := range goodWorlds() {
		for at, h := range w.Hosts {
			out[name+" "+strconv.Itoa(at)] = h
		}
	}
	book, _ := impl.AspOpen([]int{9}, nil)
	out["without gateways"] = impl.TrunkHost{Name: 999, Up: true, Tags: 1000000, Falls: 1000, Book: book}
	out["without gateways, not Up"] = impl.TrunkHost{Name: 1, Book: book}
	return out
}

// turnedGate is the first gateway of the busy world behind some turn.
func turnedGate(turn func(g *impl.TrunkGate)) impl.TrunkGate {
	g := roomy(busyWorld().Gates[0])
	turn(&g)
	return g
}

func turnedNodeHost(turn func(h *impl.TrunkHost)) impl.TrunkHost {
	h := roomy(busyWorld().Hosts[1])
	turn(&h)
	return h
}

// badGates are not ok, each in one of the ways that the document tells.
func badGates() map[string]impl.TrunkGate {
	turns := map[string]func(g *impl.TrunkGate){
		"nothing":                          func(g *impl.TrunkGate) { *g = impl.TrunkGate{} },
		"nothing, but a name":              func(g *impl.TrunkGate) { *g = impl.TrunkGate{Name: 5, Book: g.Book} },
		"the name 0":                       func(g *impl.TrunkGate) { g.Name = 0 },
		"another name":                     func(g *impl.TrunkGate) { g.Name = 2 },
		"Tags below 0":                     func(g *impl.TrunkGate) { g.Tags = -1 },
		"Tags beyond":                      func(g *impl.TrunkGate) { g.Tags = 1000001 },
		"Tags less than a Tag":             func(g *impl.TrunkGate) { g.Tags = g.Ends[0].Line.Tag - 1 },
		"Falls below 0":                    func(g *impl.TrunkGate) { g.Falls = -1 },
		"Falls beyond":                     func(g *impl.TrunkGate) { g.Falls = 1001 },
		"other Falls":                      func(g *impl.TrunkGate) { g.Falls++ },
		"a book that is not ok":            func(g *impl.TrunkGate) { g.Book.Jam = 4 },
		"an end too few":                   func(g *impl.TrunkGate) { g.Ends = g.Ends[:2] },
		"no ends":                          func(g *impl.TrunkGate) { g.Ends = nil },
		"an end too many":                  func(g *impl.TrunkGate) { g.Ends = append(g.Ends, impl.TrunkEndOpen(1, 14, 1001, 3)) },
		"an end twice":                     func(g *impl.TrunkGate) { g.Ends[1] = g.Ends[0] },
		"ends in another order":            func(g *impl.TrunkGate) { g.Ends[0], g.Ends[1] = g.Ends[1], g.Ends[0] },
		"an end that is nothing":           func(g *impl.TrunkGate) { g.Ends[2] = impl.TrunkEnd{} },
		"an end that is not ok":            func(g *impl.TrunkGate) { g.Ends[1].Beat = 5 },
		"an end of another node":           func(g *impl.TrunkGate) { g.Ends[2] = impl.TrunkEndOpen(2, 13, 1001, 3) },
		"an end to another node":           func(g *impl.TrunkGate) { g.Ends[2] = impl.TrunkEndOpen(1, 14, 1001, 3) },
		"another secret":                   func(g *impl.TrunkGate) { g.Ends[2] = impl.TrunkEndOpen(1, 13, 1002, 3) },
		"another wish":                     func(g *impl.TrunkGate) { g.Ends[2] = impl.TrunkEndOpen(1, 13, 1001, 2) },
		"a greater wish":                   func(g *impl.TrunkGate) { g.Ends[0].Line.Wish = 4 },
		"Last above Tags":                  func(g *impl.TrunkGate) { g.Ends[2].Line.Last = g.Tags + 1 },
		"Tag above Tags":                   func(g *impl.TrunkGate) { g.Ends[0].Line.Tag, g.Ends[0].Line.Last = g.Tags+1, g.Tags+1 },
		"up in the book, with a line down": func(g *impl.TrunkGate) { g.Book.Servers[2].Up = true },
		"not Up, though all else is":       func(g *impl.TrunkGate) { g.Up = false },
		"not Up, a line is not closed": func(g *impl.TrunkGate) {
			g.Up, g.Book = false, openBook(g.Book.Keys, 11, 12, 13)
			g.Ends[1], _, _ = impl.TrunkStart(impl.TrunkEndOpen(1, 12, 1001, 3), 1, 1)
			g.Ends[0] = impl.TrunkEndOpen(1, 11, 1001, 3)
		},
		"not Up, a range is pending": func(g *impl.TrunkGate) {
			g.Up, g.Book = false, openBook(g.Book.Keys, 11, 12, 13)
			for at := range g.Ends {
				g.Ends[at] = impl.TrunkEndOpen(1, 11+at, 1001, 3)
			}
			g.Book.Ranges[3].State, g.Book.Ranges[3].Left = impl.SrvPending, 1
		},
	}
	out := map[string]impl.TrunkGate{}
	for name, turn := range turns {
		out[name] = turnedGate(turn)
	}
	lone := openWorld(nil, []int{999}, nil).Gates[0]
	for _, name := range []int{-1, 0, 1000, math.MinInt, math.MaxInt} {
		lone.Name = name
		out["named "+strconv.Itoa(name)] = lone
	}
	return out
}

// badNodeHosts are not ok, each in one of the ways that the document tells.
func badNodeHosts() map[string]impl.TrunkHost {
	turns := map[string]func(h *impl.TrunkHost){
		"nothing":                          func(h *impl.TrunkHost) { *h = impl.TrunkHost{} },
		"the name 0":                       func(h *impl.TrunkHost) { h.Name = 0 },
		"another name":                     func(h *impl.TrunkHost) { h.Name = 13 },
		"Tags below 0":                     func(h *impl.TrunkHost) { h.Tags = -1 },
		"Tags beyond":                      func(h *impl.TrunkHost) { h.Tags = 1000001 },
		"Tags less than a Tag":             func(h *impl.TrunkHost) { h.Tags = h.Ends[0].Line.Tag - 1 },
		"Falls below 0":                    func(h *impl.TrunkHost) { h.Falls = -1 },
		"Falls beyond":                     func(h *impl.TrunkHost) { h.Falls = 1001 },
		"other Falls":                      func(h *impl.TrunkHost) { h.Falls++ },
		"a book that is not ok":            func(h *impl.TrunkHost) { h.Book.Wish = []int{0} },
		"an end too few":                   func(h *impl.TrunkHost) { h.Ends = h.Ends[:1] },
		"an end too many":                  func(h *impl.TrunkHost) { h.Ends = append(h.Ends, impl.TrunkEndOpen(12, 14, 12001, 3)) },
		"ends in another order":            func(h *impl.TrunkHost) { h.Ends[0], h.Ends[1] = h.Ends[1], h.Ends[0] },
		"an end that is not ok":            func(h *impl.TrunkHost) { h.Ends[1].Left = -1 },
		"an end of another node":           func(h *impl.TrunkHost) { h.Book.Gates[1].Up = false; h.Ends[1] = impl.TrunkEndOpen(13, 5, 12001, 3) },
		"another secret":                   func(h *impl.TrunkHost) { h.Ends[1].Line.Secret = 12000 },
		"another wish":                     func(h *impl.TrunkHost) { h.Ends[1].Line.Wish = 8 },
		"Last above Tags":                  func(h *impl.TrunkHost) { h.Ends[1].Line.Tag, h.Ends[1].Line.Last = h.Tags+1, h.Tags+1 },
		"up in the book, with a line down": func(h *impl.TrunkHost) { h.Ends[0] = impl.TrunkEndOpen(12, 1, 12001, 3) },
		"not Up, though all else is":       func(h *impl.TrunkHost) { h.Up = false },
		"not Up, a line is not closed": func(h *impl.TrunkHost) {
			h.Up, h.Book = false, impl.AspBook{Wish: h.Book.Wish, Gates: []impl.AspGate{{Gate: 1}, {Gate: 5}}}
			h.Ends[0] = impl.TrunkEndOpen(12, 1, 12001, 3)
			h.Ends[1], _, _ = impl.TrunkStart(impl.TrunkEndOpen(12, 5, 12001, 3), 1, 1)
		},
	}
	out := map[string]impl.TrunkHost{}
	for name, turn := range turns {
		out[name] = turnedNodeHost(turn)
	}
	for _, name := range []int{-1, 0, 1000, math.MinInt, math.MaxInt} {
		out["named "+strconv.Itoa(name)] = impl.TrunkHost{Name: name, Up: true}
	}
	return out
}

func TestTrunkNodeConstants(t *testing.T) {
	got := []int{impl.TrunkMaxName, impl.TrunkMaxTags, impl.TrunkMaxFalls, impl.TrunkMaxData, impl.TrunkStreams, impl.SrvJammed, impl.TrunkFell}
	if want := []int{999, 1000000, 1000, 6, 3, 7, 8}; !slices.Equal(got, want) {
		t.Errorf("%v, want %v", got, want)
	}
}

func TestTrunkNodesThatAreOk(t *testing.T) {
	for name, g := range goodGates() {
		if !slowGateOk(g) || !impl.TrunkGateOk(g) {
			t.Errorf("%s: %v is not ok", name, g)
		}
	}
	for name, h := range goodNodeHosts() {
		if !slowHostOk(h) || !impl.TrunkHostOk(h) {
			t.Errorf("%s: %v is not ok", name, h)
		}
	}
}

func TestTrunkNodesThatAreNotOk(t *testing.T) {
	for name, g := range badGates() {
		if slowGateOk(g) || impl.TrunkGateOk(g) {
			t.Errorf("%s: %v is ok", name, g)
		}
	}
	for name, h := range badNodeHosts() {
		if slowHostOk(h) || impl.TrunkHostOk(h) {
			t.Errorf("%s: %v is ok", name, h)
		}
	}
	for name, b := range badBooks() {
		g := impl.TrunkGate{Name: 1, Up: true, Book: b}
		for _, s := range b.Servers {
			g.Ends = append(g.Ends, impl.TrunkEndOpen(1, s.Server, 1001, 3))
		}
		if impl.TrunkGateOk(g) {
			t.Errorf("%s: %v is ok", name, g)
		}
	}
	for name, b := range badHosts() {
		h := impl.TrunkHost{Name: 11, Up: true, Book: b}
		for _, g := range b.Gates {
			h.Ends = append(h.Ends, impl.TrunkEndOpen(11, g.Gate, 11001, 3))
		}
		if impl.TrunkHostOk(h) {
			t.Errorf("%s: %v is ok", name, h)
		}
	}
	for name, e := range badTrunks() {
		g := turnedGate(func(g *impl.TrunkGate) { g.Ends[1] = e })
		if impl.TrunkGateOk(g) {
			t.Errorf("%s: %v is ok", name, g)
		}
	}
}

// nearNumbers are some to put in the place of another one: next to it, and at bounds.
func nearNumbers(n int) []int {
	return []int{n - 1, n + 1, -1, 0, 1, 3, 4, 5, 14, 999, 1000, 1001, 1000000, 1000001, 4294967295, 4294967296, math.MinInt, math.MaxInt}
}

func TestTrunkNodesOfEachNumber(t *testing.T) {
	for _, w := range []impl.TrunkWorld{busyWorld(), fallenWorld()} {
		for _, g := range w.Gates {
			for at, was := range numbersOf(&g) {
				for _, n := range nearNumbers(*was) {
					turned := roomy(g)
					*numbersOf(&turned)[at] = n
					if got := impl.TrunkGateOk(turned); got != slowGateOk(turned) {
						t.Errorf("%v: ok is %v", turned, got)
					}
				}
			}
		}
		for _, h := range w.Hosts {
			for at, was := range numbersOf(&h) {
				for _, n := range nearNumbers(*was) {
					turned := roomy(h)
					*numbersOf(&turned)[at] = n
					if got := impl.TrunkHostOk(turned); got != slowHostOk(turned) {
						t.Errorf("%v: ok is %v", turned, got)
					}
				}
			}
		}
	}
}

// Nothing is written into a node that is asked whether it is ok.
func TestTrunkNodesMemory(t *testing.T) {
	for _, plain := range []map[string]impl.TrunkGate{goodGates(), badGates()} {
		for name, one := range plain {
			g := roomy(one)
			checkMemory(t, name, func() []any {
				impl.TrunkGateOk(g)
				return nil
			}, g)
		}
	}
	for _, plain := range []map[string]impl.TrunkHost{goodNodeHosts(), badNodeHosts()} {
		for name, one := range plain {
			h := roomy(one)
			checkMemory(t, name, func() []any {
				impl.TrunkHostOk(h)
				return nil
			}, h)
		}
	}
}
