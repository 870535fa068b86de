package tests

import (
	"fmt"
	"math"
	"math/rand"
	"slices"
	"strconv"
	"strings"
	"testing"

	"loop.example/trunk/impl"
)

// slowBrings brings all that is under way, event by event.
func slowBrings(w impl.TrunkWorld, lost int, most int) impl.TrunkWorld {
	for n := 0; n < most && len(w.Air) > 0; n++ {
		if to := w.Air[0].To; lost == 1 && to%2 == 1 || lost == 0 && to%2 == 0 {
			w = slowWorldStep(w, evLose(0))
		} else {
			w = slowWorldStep(w, evBring(0))
		}
	}
	return w
}

func slowCalmly(w impl.TrunkWorld, rounds int, lost int) impl.TrunkWorld {
	return slowCalmUpTo(w, rounds, lost, 600)
}

// slowCalmUpTo brings so many at once at most.
func slowCalmUpTo(w impl.TrunkWorld, rounds int, lost int, most int) impl.TrunkWorld {
	if !slowWorldOk(w) {
		return impl.TrunkWorld{}
	}
	for round := 0; round < rounds && round < 100; round++ {
		w = slowBrings(w, lost, most)
		for at := range len(w.Gates) + len(w.Hosts) {
			w = slowBrings(slowWorldStep(w, evTick(at)), lost, most)
		}
		w = slowWorldStep(w, evClock())
	}
	return w
}

func slowServed(w impl.TrunkWorld) bool {
	if !slowWorldOk(w) || len(w.Air) > 0 {
		return false
	}
	for _, e := range allEnds(w) {
		if len(e.Out.Queue) > 0 || len(e.Out.Flight) > 0 || len(e.In.Have) > 0 {
			return false
		}
	}
	for i, g := range w.Gates {
		if !g.Up {
			return false
		}
		for _, r := range g.Book.Ranges {
			wished := false
			for _, h := range w.Hosts {
				wished = wished || slices.Contains(h.Book.Wish, r.Ctx)
			}
			if wished != (r.State == 2) || len(r.Wait) > 0 {
				return false
			}
		}
		for j, h := range w.Hosts {
			mine, its := g.Book.Servers[j], h.Book.Gates[i]
			a, b := g.Ends[j].Line, h.Ends[i].Line
			if !h.Up || !mine.Up || !its.Up || !slices.Equal(mine.Active, its.Active) || !slices.Equal(g.Book.Off, its.Off) || g.Book.Jam != its.Jam {
				return false
			}
			if a.State != 3 || b.State != 3 || a.PeerTag != b.Tag || b.PeerTag != a.Tag {
				return false
			}
		}
	}
	return true
}

func slowBoard(w impl.TrunkWorld) string {
	if !slowWorldOk(w) {
		return ""
	}
	counts := map[int]int{}
	for at := range w.Given {
		counts[min(slowClass(w, at+1), 10)]++
	}
	text := fmt.Sprintf("now %d given %d got %d waits %d flies %d dropped %d\n", w.Now, len(w.Given), counts[1], counts[2]+counts[3], counts[4], counts[10])
	for _, g := range w.Gates {
		if !g.Up {
			text += fmt.Sprintf("gate %d down\n", g.Name)
			continue
		}
		text += fmt.Sprintf("gate %d\n", g.Name)
		for _, r := range g.Book.Ranges {
			text += fmt.Sprintf("range %d %s", r.Ctx, []string{"down", "idle", "active", "pending"}[r.State])
			for _, server := range activeFor(g.Book, r.Ctx) {
				text += fmt.Sprintf(" %d", server)
			}
			if r.State == 3 {
				text += fmt.Sprintf(" waits %d left %d", len(r.Wait), r.Left)
			}
			text += "\n"
		}
	}
	return text
}

// checkAsked holds what is asked of a world against the slow reading; P9: the lines of the board.
func checkAsked(t *testing.T, w impl.TrunkWorld) {
	t.Helper()
	if got := impl.TrunkServed(w); got != slowServed(w) {
		t.Fatalf("%v\nis served: %v", w, got)
	}
	board := impl.TrunkBoard(w)
	if board != slowBoard(w) {
		t.Fatalf("%v:\n%s, want\n%s", w, board, slowBoard(w))
	}
	lines := 1
	for _, g := range w.Gates {
		lines++
		if g.Up {
			lines += len(g.Book.Keys)
		}
	}
	if strings.Count(board, "\n") != lines || !strings.HasSuffix(board, "\n") {
		t.Fatalf("%v:\n%s", w, board)
	}
	var now, given, got, waits, flies, dropped int
	_, err := fmt.Sscanf(board, "now %d given %d got %d waits %d flies %d dropped %d\n", &now, &given, &got, &waits, &flies, &dropped)
	if err != nil || slowSafe(w) && got+waits+flies+dropped != given {
		t.Fatalf("%s: %v", board, err)
	}
}

// walked is a world to which at most so many steps have led, in which at most so many units were given.
func walked(chance *rand.Rand, steps int, most int) impl.TrunkWorld {
	w := someWorld(chance)
	if chance.Intn(2) == 0 {
		w = impl.TrunkCalmly(w, 5, -1)
	}
	s := &stroll{chance: chance, w: w, most: most}
	for range chance.Intn(steps + 1) {
		s.w = impl.TrunkStep(s.w, s.event())
	}
	return s.w
}

// risen is a world in which all nodes have risen, but for one.
func risen(w impl.TrunkWorld, but int) impl.TrunkWorld {
	for at := range len(w.Gates) + len(w.Hosts) {
		if at != but {
			w = impl.TrunkStep(w, evRise(at))
		}
	}
	return w
}

func TestTrunkCalmConstants(t *testing.T) {
	if impl.TrunkMaxCalm != 100 || impl.TrunkMaxBring != 600 {
		t.Errorf("%d, %d", impl.TrunkMaxCalm, impl.TrunkMaxBring)
	}
}

// The example of chapter 20.
func TestTrunkBoardExample(t *testing.T) {
	w := openWorld([]impl.KeyRow{{Ctx: 1, Low: 0, High: 99, Mode: 1}}, []int{1}, []impl.TrunkWish{{Name: 11, Wish: []int{1}}})
	w = impl.TrunkCalmly(w, 3, -1)
	if got := impl.TrunkBoard(w); got != "now 3 given 0 got 0 waits 0 flies 0 dropped 0\ngate 1\nrange 1 active 11\n" {
		t.Errorf("%s", got)
	}
	w = checkStep(t, w, evGive(0, 7, 1), evWant(1, 1, false))
	for range 6 {
		w = checkStep(t, w, evBring(0))
	}
	w = checkStep(t, w, evGive(0, 8, 1))
	if got := impl.TrunkBoard(w); got != "now 3 given 2 got 1 waits 1 flies 0 dropped 0\ngate 1\nrange 1 pending waits 1 left 5\n" {
		t.Errorf("%s", got)
	}
	checkAsked(t, w)
}

// What each state of a range, and of a unit, is on the board, told by hand.
func TestTrunkBoard(t *testing.T) {
	keys := []impl.KeyRow{{Ctx: 2, Low: 500, High: 509, Mode: impl.KeyShare}, {Ctx: 5, Low: 600, High: 609, Mode: impl.KeyOne}, {Ctx: 9, Low: 700, High: 709, Mode: impl.KeyAll}}
	w := openWorld(keys, []int{1, 999}, []impl.TrunkWish{{Name: 11, Wish: []int{2, 5}}, {Name: 12, Wish: []int{2}}, {Name: 900, Wish: []int{2}}})
	if got := impl.TrunkBoard(w); got != "now 0 given 0 got 0 waits 0 flies 0 dropped 0\ngate 1\nrange 2 down\nrange 5 down\nrange 9 down\ngate 999\nrange 2 down\nrange 5 down\nrange 9 down\n" {
		t.Errorf("%s", got)
	}
	w = impl.TrunkCalmly(w, 5, -1)
	w = checkStep(t, w, evGive(0, 500, 0), evBring(0), evGive(0, 500, 0), evGive(0, 500, 0), evGive(0, 500, 0), evGive(0, 700, 0), evGive(0, 510, 0), evClose(1, 0, true), evGive(1, 600, 1), evGive(1, 600, 1), evTick(1))
	checkAsked(t, w)
	if got := impl.TrunkBoard(w); got != "now 5 given 8 got 1 waits 4 flies 1 dropped 2\ngate 1\nrange 2 active 11 12 900\nrange 5 active 11\nrange 9 idle\ngate 999\nrange 2 active 12 900\nrange 5 pending waits 2 left 4\nrange 9 idle\n" {
		t.Errorf("%s", got)
	}
	w = checkStep(t, w, evFall(0), evClock())
	if got := impl.TrunkBoard(w); got != "now 6 given 8 got 1 waits 2 flies 0 dropped 5\ngate 1 down\ngate 999\nrange 2 active 12 900\nrange 5 pending waits 2 left 4\nrange 9 idle\n" {
		t.Errorf("%s", got)
	}
	w = checkStep(t, w, evFall(1))
	if got := impl.TrunkBoard(w); got != "now 6 given 8 got 1 waits 0 flies 0 dropped 7\ngate 1 down\ngate 999 down\n" {
		t.Errorf("%s", got)
	}
	if got := impl.TrunkBoard(openWorld(nil, []int{7}, nil)); got != "now 0 given 0 got 0 waits 0 flies 0 dropped 0\ngate 7\n" {
		t.Errorf("%s", got)
	}
}

func TestTrunkCalmOfWorldsThatAreNotOk(t *testing.T) {
	for name, w := range badWorlds() {
		for _, rounds := range []int{-1, 0, 1, 100} {
			if got := impl.TrunkCalmly(w, rounds, -1); !sameValue(got, impl.TrunkWorld{}) {
				t.Errorf("%s: %v", name, got)
			}
		}
		if impl.TrunkServed(w) {
			t.Errorf("%s is served", name)
		}
		if board := impl.TrunkBoard(w); board != "" {
			t.Errorf("%s: %s", name, board)
		}
	}
}

func TestTrunkCalmly(t *testing.T) {
	for name, w := range goodWorlds() {
		for _, lost := range []int{-1, 0, 1, 2, math.MaxInt, math.MinInt} {
			for _, rounds := range []int{math.MinInt, -100, -1, 0} {
				if got := impl.TrunkCalmly(w, rounds, lost); !sameValue(got, w) {
					t.Errorf("%s: %d rounds: %v", name, rounds, got)
				}
			}
			got, want := w, w
			for round := range 4 {
				got, want = impl.TrunkCalmly(got, 1, lost), slowCalmly(want, 1, lost)
				if !sameValue(got, want) {
					t.Fatalf("%s, %d is lost, round %d:\n%v, want\n%v", name, lost, round, got, want)
				}
				checkAsked(t, got)
				checkLedger(t, got)
			}
		}
	}
}

// With lost 1 nothing comes by odd addresses, with 0 nothing by even ones; with any other one all comes.
func TestTrunkCalmlyLosesOneWay(t *testing.T) {
	w := oneOf(impl.KeyOne, 1)
	for _, lost := range []int{-1, 0, 1, 2, 3} {
		v := w
		v.Air = []impl.TrunkAir{
			{From: 2, To: 22, Bytes: framed(w.Hosts[0].Ends[0], impl.FrmChunk{Kind: impl.FrmBeat, Body: []byte{9, 0}})},
			{From: 3, To: 23, Bytes: framed(w.Hosts[0].Ends[0], impl.FrmChunk{Kind: impl.FrmBeat, Body: []byte{9, 1}})},
		}
		// What is heard takes a tag, and what that is answered takes one at the gateway.
		want := 2
		if lost == 0 || lost == 1 {
			want = 1
		}
		got := impl.TrunkCalmly(v, 1, lost)
		if got.Hosts[0].Tags-w.Hosts[0].Tags != want || got.Gates[0].Tags-w.Gates[0].Tags != want || len(got.Air) != 0 {
			t.Errorf("%d is lost: %d and %d are heard", lost, got.Hosts[0].Tags-w.Hosts[0].Tags, got.Gates[0].Tags-w.Gates[0].Tags)
		}
		// It is the address that bytes go to that counts.
		v.Air = []impl.TrunkAir{{From: 2, To: 23, Bytes: v.Air[0].Bytes}, {From: 3, To: 22, Bytes: v.Air[1].Bytes}, {From: 2, To: 23, Bytes: v.Air[0].Bytes}}
		want = map[int]int{0: 2, 1: 1}[lost]
		if got := impl.TrunkCalmly(v, 1, lost); want > 0 && got.Hosts[0].Tags-w.Hosts[0].Tags != want {
			t.Errorf("%d is lost: %d are heard", lost, got.Hosts[0].Tags-w.Hosts[0].Tags)
		}
		for range 30 {
			got = impl.TrunkCalmly(got, 1, lost)
		}
		ways := got.Gates[0].Ends[0].Ways
		if ways[0].On != (lost != 0) || ways[1].On != (lost != 1) || !impl.TrunkServed(got) {
			t.Errorf("%d is lost: %v", lost, ways)
		}
	}
}

// crowded is a world in which more is said, and said back, than is brought at once: at all ends much is under way and waits.
// At each line the server says, in order, data (D), MsgUp (U) and MsgActive (A); the gateway data and MsgIdleAck, so many of each.
func crowded() impl.TrunkWorld {
	var hosts []impl.TrunkWish
	for at := range 3 {
		hosts = append(hosts, impl.TrunkWish{Name: 11 + at, Wish: []int{1, 2, 4, 7}})
	}
	keys := fourKeys()
	for at, mode := range []int{impl.KeyAll, impl.KeyOne, impl.KeyShare, impl.KeyAll} {
		keys[at].Mode = mode
	}
	w := servedWorld(keys, []int{1, 5}, hosts)
	for at := range 2 {
		for dest := range 6 {
			w = happens(w, evTell(at, impl.MsgOff, dest))
		}
		w = happens(w, evTell(at, impl.MsgJam, 1))
	}
	w = roomy(impl.TrunkCalmly(w, 3, -1))
	words := map[rune]impl.MsgWord{
		'D': {Kind: impl.MsgData, Ctx: 2, Dest: 105, Sls: 1, Body: make([]byte, 12)},
		'U': {Kind: impl.MsgUp}, 'A': {Kind: impl.MsgActive, Ctx: 2}, 'I': {Kind: impl.MsgIdleAck, Ctx: 2},
	}
	for at, says := range []string{"DUDDUUUDAUAUUA", "DDDDDDDDDDDDDU", "DADADDDDAADDDU", "DDDDDAUDDDDADD", "DDDDDDDDADDDUA", "DAADDDDUDDADAD"} {
		gate, host := &w.Gates[at/3].Ends[at%3], &w.Hosts[at%3].Ends[at/3]
		back := strings.Repeat("D", []int{2, 7, 4, 3, 5, 2}[at]) + strings.Repeat("I", []int{0, 3, 0, 1, 3, 3}[at])
		for _, c := range []struct {
			e    *impl.TrunkEnd
			says string
		}{{host, says}, {gate, back}} {
			for _, word := range c.says {
				if len(c.e.Out.Queue) < 12 {
					*c.e, _, _ = impl.TrunkPush(*c.e, impl.DatUnit{Body: slowMsg(words[word])})
				}
			}
			w.Air = append(w.Air, bundled(*c.e)...)
		}
	}
	for len(w.Air) < 40 {
		w.Air = append(w.Air, impl.TrunkAir{From: 2, To: 22, Bytes: framed(w.Hosts[0].Ends[0], impl.FrmChunk{Kind: impl.FrmBeat, Body: []byte{1}})})
	}
	return w
}

// bundled is all that an end has under way, once more.
func bundled(e impl.TrunkEnd) []impl.TrunkAir {
	s := wire{end: e}
	var pieces []impl.DatPiece
	for _, sent := range e.Out.Flight {
		pieces = append(pieces, sent.Piece)
	}
	s.bundles(0, pieces)
	var out []impl.TrunkAir
	for _, send := range s.sends {
		out = append(out, impl.TrunkAir{From: 2 * e.Line.Me, To: 2 * e.Line.Peer, Bytes: send.Bytes})
	}
	return out
}

// More than TrunkMaxBring is under way; were much less brought at once, that would show.
func TestTrunkCalmlyOfACrowd(t *testing.T) {
	w := crowded()
	if !slowWorldOk(w) {
		t.Fatalf("%v is not ok", w)
	}
	if left := slowBrings(w, -1, 600); len(left.Air) == 0 {
		t.Fatal("there is too little to bring")
	}
	got, want := impl.TrunkCalmly(w, 1, -1), slowCalmly(w, 1, -1)
	if !sameValue(got, want) {
		t.Errorf("%v, want\n%v", got, want)
	}
	for _, most := range []int{60, 300, 450} {
		if sameValue(want, slowCalmUpTo(w, 1, -1, most)) {
			t.Errorf("bringing %d at most shows nothing", most)
		}
	}
}

// P8: of a and of b rounds, one behind the other; more than TrunkMaxCalm are as many.
func TestTrunkCalmlyAddsUp(t *testing.T) {
	for seed := range int64(10) {
		chance := rand.New(rand.NewSource(800 + seed))
		w := risen(walked(chance, 300, 20), chance.Intn(9))
		lost := chance.Intn(4) - 1
		all := []impl.TrunkWorld{w}
		for range 100 {
			all = append(all, impl.TrunkCalmly(all[len(all)-1], 1, lost))
		}
		for _, a := range []int{0, 1, 2, 7, 49, 50, 99, 100, chance.Intn(100)} {
			if got := impl.TrunkCalmly(w, a, lost); !sameValue(got, all[a]) {
				t.Fatalf("%d rounds:\n%v, want\n%v", a, got, all[a])
			}
			for _, b := range []int{0, 1, 3, 100 - a, chance.Intn(101 - a)} {
				if a+b <= 100 {
					if got := impl.TrunkCalmly(all[a], b, lost); !sameValue(got, all[a+b]) {
						t.Fatalf("%d and %d rounds:\n%v, want\n%v", a, b, got, all[a+b])
					}
				}
			}
		}
		for _, rounds := range []int{101, 200, math.MaxInt} {
			if got := impl.TrunkCalmly(w, rounds, lost); !sameValue(got, all[100]) {
				t.Fatalf("%d rounds: %v", rounds, got)
			}
		}
		if all[100].Now != w.Now+100 {
			t.Errorf("%d rounds", all[100].Now-w.Now)
		}
	}
}

// quietWorld is a world of two gateways and three servers that is served, with something off, and jam.
func quietWorld() impl.TrunkWorld {
	w := servedWorld(fourKeys(), []int{1, 5}, []impl.TrunkWish{{Name: 11, Wish: []int{1, 2, 4}}, {Name: 12, Wish: []int{2, 4, 9}}, {Name: 13}})
	return impl.TrunkCalmly(happens(w, evTell(0, impl.MsgOff, 7), evTell(1, impl.MsgJam, 2), evGive(0, 105, 1)), 3, -1)
}

// The world is served still, whatever else turns; and is not with one of what the document tells turned.
func TestTrunkServed(t *testing.T) {
	open := unitOf(0, 0, 3, false)
	for name, c := range map[string]struct {
		served bool
		turn   func(w *impl.TrunkWorld)
	}{
		"as it is":                    {true, func(w *impl.TrunkWorld) {}},
		"something under way":         {false, func(w *impl.TrunkWorld) { w.Air = airOf(1) }},
		"a gateway waits":             {false, func(w *impl.TrunkWorld) { w.Gates[1].Ends[2].Out.Queue = []impl.DatUnit{open} }},
		"a server waits":              {false, func(w *impl.TrunkWorld) { w.Hosts[2].Ends[0].Out.Queue = []impl.DatUnit{open} }},
		"a gateway's is under way":    {false, func(w *impl.TrunkWorld) { flying(&w.Gates[0].Ends[1]) }},
		"a server's is under way":     {false, func(w *impl.TrunkWorld) { flying(&w.Hosts[0].Ends[1]) }},
		"a gateway has a piece":       {false, func(w *impl.TrunkWorld) { having(&w.Gates[0].Ends[0]) }},
		"a server has a piece":        {false, func(w *impl.TrunkWorld) { having(&w.Hosts[1].Ends[1]) }},
		"a number was seen":           {true, func(w *impl.TrunkWorld) { seen(&w.Hosts[1].Ends[1]) }},
		"a range is pending":          {true, func(w *impl.TrunkWorld) { w.Gates[0].Book.Ranges[3] = impl.SrvRange{Ctx: 7, State: 3, Left: 2} }},
		"a unit waits in it":          {false, func(w *impl.TrunkWorld) { w.Gates[0].Book.Ranges[3] = waitingRange() }},
		"it waits at the other one":   {false, func(w *impl.TrunkWorld) { w.Gates[1].Book.Ranges[3] = waitingRange() }},
		"one more wish":               {false, func(w *impl.TrunkWorld) { w.Hosts[2].Book.Wish = []int{7} }},
		"one more wish, of no range":  {true, func(w *impl.TrunkWorld) { w.Hosts[2].Book.Wish = []int{8} }},
		"another one's wish":          {true, func(w *impl.TrunkWorld) { w.Hosts[2].Book.Wish = []int{1, 2, 4} }},
		"a wish less":                 {false, func(w *impl.TrunkWorld) { w.Hosts[0].Book.Wish = []int{2, 4} }},
		"a wish less that one has":    {true, func(w *impl.TrunkWorld) { w.Hosts[0].Book.Wish = []int{1, 4} }},
		"something asked for":         {true, func(w *impl.TrunkWorld) { w.Hosts[0].Book.Gates[1].Asked = []int{9} }},
		"active for more":             {false, func(w *impl.TrunkWorld) { w.Hosts[0].Book.Gates[1].Active = []int{1, 2, 4, 9} }},
		"active for less":             {false, func(w *impl.TrunkWorld) { w.Hosts[1].Book.Gates[0].Active = []int{2} }},
		"active, the gateway is not":  {false, func(w *impl.TrunkWorld) { w.Gates[0].Book.Servers[1].Active = []int{2} }},
		"active for another one":      {false, func(w *impl.TrunkWorld) { w.Hosts[1].Book.Gates[0].Active = []int{2, 7} }},
		"off at a gateway":            {false, func(w *impl.TrunkWorld) { w.Gates[1].Book.Off = []int{8} }},
		"off at a server":             {false, func(w *impl.TrunkWorld) { w.Hosts[2].Book.Gates[0].Off = nil }},
		"off at a server, another":    {false, func(w *impl.TrunkWorld) { w.Hosts[2].Book.Gates[0].Off = []int{8} }},
		"jam at a gateway":            {false, func(w *impl.TrunkWorld) { w.Gates[0].Book.Jam = 1 }},
		"jam at a server":             {false, func(w *impl.TrunkWorld) { w.Hosts[2].Book.Gates[1].Jam = 1 }},
		"the gateway's tag":           {false, func(w *impl.TrunkWorld) { retagged(&w.Gates[0].Ends[2].Line) }},
		"the server's tag":            {false, func(w *impl.TrunkWorld) { retagged(&w.Hosts[2].Ends[1].Line) }},
		"the gateway's other tag":     {false, func(w *impl.TrunkWorld) { w.Gates[1].Ends[0].Line.PeerTag++ }},
		"the server's other tag":      {false, func(w *impl.TrunkWorld) { w.Hosts[1].Ends[0].Line.PeerTag++ }},
		"the server knows nothing":    {false, func(w *impl.TrunkWorld) { w.Hosts[2].Book.Gates[0] = impl.AspGate{Gate: 1} }},
		"the gateway knows nothing":   {false, func(w *impl.TrunkWorld) { w.Gates[1].Book.Servers[2].Up = false }},
		"a way that is lost":          {true, func(w *impl.TrunkWorld) { errs(3, 1)(&w.Gates[0].Ends[0]) }},
		"a beat that is not back":     {true, func(w *impl.TrunkWorld) { beaten(true, false)(&w.Hosts[0].Ends[0]) }},
		"a gateway falls":             {false, func(w *impl.TrunkWorld) { *w = impl.TrunkStep(*w, evFall(1)) }},
		"a server falls":              {false, func(w *impl.TrunkWorld) { *w = impl.TrunkStep(*w, evFall(4)) }},
		"a server falls and rises":    {false, func(w *impl.TrunkWorld) { *w = happens(*w, evFall(4), evRise(4)) }},
		"Now, and what is told of it": {true, func(w *impl.TrunkWorld) { w.Now, w.Got, w.Drops = 1000000, nil, make([]impl.SrvDrop, 72) }},
	} {
		w := roomy(quietWorld())
		c.turn(&w)
		if !slowWorldOk(w) {
			t.Fatalf("%s: %v is not ok", name, w)
		}
		checkAsked(t, w)
		if impl.TrunkServed(w) != c.served {
			t.Errorf("%s: served is %v", name, !c.served)
		}
	}
	for at := range 2 {
		w := openWorld(fourKeys(), []int{1, 2}, nil)
		if !impl.TrunkServed(w) {
			t.Error("gateways alone")
		}
		w.Gates[at].Up = false
		if checkAsked(t, w); impl.TrunkServed(w) {
			t.Errorf("the gateway %d is not up", at)
		}
	}
}

func flying(e *impl.TrunkEnd) {
	e.Out.Flight, e.Left = flightOf(e.Out.Next, 1), 2
}

// having: a piece that came, and is kept, as the beginning of its unit was lost.
func having(e *impl.TrunkEnd) {
	e.In.Have = []impl.DatPiece{{Tsn: e.In.Cum, Stream: 1, Ssn: 9, Last: true, Body: []byte{1}}}
}

func seen(e *impl.TrunkEnd) {
	e.In.Seen = []int{onward(e.In.Cum, 2)}
}

func waitingRange() impl.SrvRange {
	return impl.SrvRange{Ctx: 7, State: impl.SrvPending, Left: 2, Wait: []impl.SrvUnit{give(1, 305, 1)}}
}

func retagged(line *impl.AscEnd) {
	line.Tag--
	line.Last--
}

// P3, P5, P33: of a world that many steps have led to, in a calm, also with all lost by one of the ways.
func TestTrunkCalmServesAll(t *testing.T) {
	wished := 0
	for seed := range int64(90) {
		chance := rand.New(rand.NewSource(300 + seed))
		w := risen(walked(chance, []int{60, 300, 1000}[seed%3], 24), -1)
		calm := impl.TrunkCalmly(w, 60, -1)
		checkCalm(t, w, calm)
		checkCalm(t, w, impl.TrunkCalmly(calm, 1+chance.Intn(40), -1))
		for lost := range 2 {
			checkCalm(t, w, impl.TrunkCalmly(w, 80, lost))
		}
		wished += checkAsFresh(t, calm)
	}
	if wished < 60 {
		t.Errorf("%d ranges are served", wished)
	}
}

// checkCalm: all is served, and each unit was got, or dropped; what was got, or dropped for good, stays so.
func checkCalm(t *testing.T, was impl.TrunkWorld, w impl.TrunkWorld) {
	t.Helper()
	if !impl.TrunkWorldOk(w) || !impl.TrunkServed(w) || !slowServed(w) || !impl.TrunkSafe(w) {
		t.Fatalf("%s\nof %v\nis %v", impl.TrunkBoard(w), was, w)
	}
	before := whereAll(was)
	for at, class := range whereAll(w) {
		if class != impl.ClassGot && class <= impl.ClassDropped || before[at] == impl.ClassGot && class != impl.ClassGot {
			t.Fatalf("%d was %d and is %d\n%v", at+1, before[at], class, w)
		}
	}
}

// checkAsFresh says that all is served as in a world at its beginning, of the same wishes, with the same told; it tells how many ranges are.
func checkAsFresh(t *testing.T, w impl.TrunkWorld) int {
	t.Helper()
	var gates []int
	var hosts []impl.TrunkWish
	for _, g := range w.Gates {
		gates = append(gates, g.Name)
	}
	for _, h := range w.Hosts {
		hosts = append(hosts, impl.TrunkWish{Name: h.Name, Wish: h.Book.Wish})
	}
	fresh := openWorld(w.Gates[0].Book.Keys, gates, hosts)
	for at, g := range w.Gates {
		for _, dest := range g.Book.Off {
			fresh = impl.TrunkStep(fresh, evTell(at, impl.MsgOff, dest))
		}
		fresh = impl.TrunkStep(fresh, evTell(at, impl.MsgJam, g.Book.Jam))
	}
	fresh = impl.TrunkCalmly(fresh, 60, -1)
	checkCalm(t, fresh, fresh)
	served := 0
	for at, g := range w.Gates {
		other := fresh.Gates[at].Book
		for i, r := range g.Book.Ranges {
			if r.State == impl.SrvActive {
				served++
			}
			if (r.State == impl.SrvActive) != (other.Ranges[i].State == impl.SrvActive) || len(activeFor(g.Book, r.Ctx)) != len(activeFor(other, r.Ctx)) {
				t.Fatalf("%s\nand at its beginning\n%s", impl.TrunkBoard(w), impl.TrunkBoard(fresh))
			}
		}
		for i := range w.Hosts {
			a, b := w.Hosts[i].Book.Gates[at], fresh.Hosts[i].Book.Gates[at]
			if !slices.Equal(a.Off, b.Off) || a.Jam != b.Jam || !slices.Equal(a.Off, g.Book.Off) {
				t.Fatalf("%v knows %v, and at its beginning %v", w.Hosts[i].Name, a, b)
			}
		}
	}
	return served
}

// P4: what is given behind a calm is got within three rounds, by each that serves it, or by one.
func TestTrunkCalmBringsWhatIsGiven(t *testing.T) {
	count := map[int]int{}
	for seed := range int64(70) {
		chance := rand.New(rand.NewSource(400 + seed))
		w := impl.TrunkCalmly(risen(walked(chance, 500, 15), -1), 60, -1)
		for at, g := range w.Gates {
			for i, r := range g.Book.Ranges {
				dest := g.Book.Keys[i].Low + 30 + chance.Intn(60)
				if r.State != impl.SrvActive || slices.Contains(g.Book.Off, dest) {
					continue
				}
				v := impl.TrunkCalmly(impl.TrunkStep(w, evGive(at, dest, chance.Intn(16))), 3, -1)
				mark := len(v.Given)
				var by []int
				for _, one := range v.Got {
					if one.Mark == mark {
						by = append(by, one.Host)
					}
				}
				slices.Sort(by)
				active := activeFor(g.Book, r.Ctx)
				mode := g.Book.Keys[i].Mode
				right := mode == impl.KeyAll && slices.Equal(by, active) || mode != impl.KeyAll && len(by) == 1 && slices.Contains(active, by[0])
				if mark != len(w.Given)+1 || !right || impl.TrunkClass(v, mark) != impl.ClassGot {
					t.Fatalf("mode %d: %d is got by %v, %v are active", mode, mark, by, active)
				}
				count[mode]++
			}
		}
	}
	for mode := impl.KeyOne; mode <= impl.KeyAll; mode++ {
		if count[mode] < 20 {
			t.Errorf("mode %d: %d units", mode, count[mode])
		}
	}
}

// P52: when a server stays down, others serve what it served, as far as they wish it.
func TestTrunkCalmWithoutAServer(t *testing.T) {
	served, idle := 0, 0
	for seed := range int64(60) {
		chance := rand.New(rand.NewSource(520 + seed))
		w := risen(walked(chance, 400, 24), -1)
		if len(w.Hosts) == 0 {
			continue
		}
		if chance.Intn(2) == 0 {
			w = impl.TrunkCalmly(w, 60, -1)
		}
		down := chance.Intn(len(w.Hosts))
		w = impl.TrunkCalmly(impl.TrunkStep(w, evFall(len(w.Gates)+down)), 60, -1)
		for _, g := range w.Gates {
			for _, r := range g.Book.Ranges {
				wished := false
				for at, h := range w.Hosts {
					wished = wished || at != down && slices.Contains(h.Book.Wish, r.Ctx)
				}
				if (r.State == impl.SrvActive) != wished || len(r.Wait) > 0 || slices.Contains(activeFor(g.Book, r.Ctx), w.Hosts[down].Name) {
					t.Fatalf("%d stays down:\n%s", w.Hosts[down].Name, impl.TrunkBoard(w))
				}
				if wished {
					served++
				} else {
					idle++
				}
			}
			for _, e := range g.Ends {
				if len(e.Out.Queue) > 0 {
					t.Fatalf("%v waits", e)
				}
			}
		}
		for mark, class := range whereAll(w) {
			if class != impl.ClassGot && class <= impl.ClassDropped {
				t.Fatalf("%d is %d", mark+1, class)
			}
		}
	}
	if served < 40 || idle < 20 {
		t.Errorf("%d are served, %d are not", served, idle)
	}
}

// P53: what goes off, and jam, is known to all servers behind two rounds.
func TestTrunkCalmTellsAll(t *testing.T) {
	told := 0
	for seed := range int64(40) {
		chance := rand.New(rand.NewSource(530 + seed))
		w := impl.TrunkCalmly(risen(walked(chance, 300, 24), -1), 60, -1)
		for range 12 {
			at := chance.Intn(len(w.Gates))
			num := []int{0, 1, 2, 3, 105, 999}[chance.Intn(6)]
			for range 1 + chance.Intn(3) {
				w = impl.TrunkStep(w, evTell(at, impl.MsgOff+chance.Intn(3), num))
			}
			w = impl.TrunkCalmly(w, 2, -1)
			for i, g := range w.Gates {
				for _, h := range w.Hosts {
					if !slices.Equal(h.Book.Gates[i].Off, g.Book.Off) || h.Book.Gates[i].Jam != g.Book.Jam {
						t.Fatalf("%d knows %v of %v", h.Name, h.Book.Gates[i], g.Book)
					}
					told += len(g.Book.Off)
				}
			}
			if !impl.TrunkServed(w) {
				t.Fatalf("%s", impl.TrunkBoard(w))
			}
		}
	}
	if told < 200 {
		t.Errorf("%d are told", told)
	}
}

// P9, and what is served, along the way.
func TestTrunkBoardAlongTheWay(t *testing.T) {
	boards := map[string]bool{}
	for seed := range int64(30) {
		chance := rand.New(rand.NewSource(900 + seed))
		s := &stroll{chance: chance, w: someWorld(chance), most: 24}
		for range 200 {
			s.w = impl.TrunkStep(s.w, s.event())
			checkAsked(t, s.w)
		}
		for _, word := range strings.Fields(impl.TrunkBoard(s.w)) {
			if _, err := strconv.Atoi(word); err != nil {
				boards[word] = true
			}
		}
	}
	for _, word := range []string{"now", "given", "got", "waits", "flies", "dropped", "gate", "range", "down", "idle", "active", "pending", "left"} {
		if !boards[word] {
			t.Errorf("no board has %s", word)
		}
	}
}

// A range that KeyAll serves goes on at the others when one server goes, and comes back in its next life.
func TestTrunkCalmOfAllInTheNextLife(t *testing.T) {
	w := oneOf(impl.KeyAll, 3)
	w = happens(w, evGive(0, 500, 1), evFall(2), evRise(2))
	w = impl.TrunkCalmly(w, 12, -1)
	w = impl.TrunkCalmly(impl.TrunkStep(w, evGive(0, 501, 1)), 3, -1)
	var lives []int
	for _, one := range w.Got {
		if one.Mark == 2 {
			lives = append(lives, one.Host, one.Life)
		}
	}
	if !slices.Equal(lives, []int{11, 0, 12, 1, 13, 0}) || !impl.TrunkServed(w) || !impl.TrunkSafe(w) {
		t.Errorf("%v", w.Got)
	}
}

// What calm answers is new memory, and nothing is written into a world.
func TestTrunkCalmMemory(t *testing.T) {
	worlds := goodWorlds()
	worlds["bad"] = badWorlds()["one more got"]
	for name, plain := range worlds {
		w := roomy(plain)
		for _, rounds := range []int{-1, 0, 1, 2} {
			checkMemory(t, name, func() []any { return []any{impl.TrunkCalmly(w, rounds, 1)} }, w)
		}
		checkMemory(t, name, func() []any {
			impl.TrunkServed(w)
			impl.TrunkBoard(w)
			return nil
		}, w)
	}
}
