package tests

import (
	"fmt"
	"math/rand"
	"slices"
	"testing"

	"loop.example/trunk/impl"
)

// checkBook says that a book is one that may be: ok, and, of each range, as P2 has it.
func checkBook(t *testing.T, b impl.SrvBook) {
	t.Helper()
	if !slowSrvOk(b) || !impl.SrvOk(b) {
		t.Fatalf("%v is not ok", b)
	}
	for at, r := range b.Ranges {
		active := activeFor(b, r.Ctx)
		if b.Keys[at].Mode == impl.KeyOne && len(active) > 1 || (r.State == impl.SrvActive) != (len(active) > 0) {
			t.Fatalf("range %d of %v: %v are active", r.Ctx, b, active)
		}
	}
}

// checkTurns says that each turn of a range is told to all that are up (P47).
func checkTurns(t *testing.T, was impl.SrvBook, b impl.SrvBook, says []impl.SrvSay) {
	t.Helper()
	for at, r := range b.Ranges {
		if r.State == was.Ranges[at].State {
			continue
		}
		for _, s := range b.Servers {
			told := slices.ContainsFunc(says, func(say impl.SrvSay) bool {
				return say.Server == s.Server && sameValue(say.Word, impl.MsgWord{Kind: impl.MsgState, Ctx: r.Ctx, Num: r.State})
			})
			if told != s.Up {
				t.Fatalf("%v: range %d is %d, server %d is told so: %v", was, r.Ctx, r.State, s.Server, told)
			}
		}
	}
}

// checkSays says that all that is said is ok, and to servers of the book.
func checkSays(t *testing.T, b impl.SrvBook, says []impl.SrvSay) {
	t.Helper()
	for _, say := range says {
		known := slices.ContainsFunc(b.Servers, func(s impl.SrvServer) bool { return s.Server == say.Server })
		if !known || !impl.MsgOk(say.Word) {
			t.Fatalf("%v is said", say)
		}
	}
}

// checkHear holds SrvHear against the slow reading, and against P47, P61 and P28.
func checkHear(t *testing.T, b impl.SrvBook, server int, w impl.MsgWord) (impl.SrvBook, []impl.SrvSay) {
	t.Helper()
	got, says := impl.SrvHear(b, server, w)
	if want, wantSays := slowSrvHear(b, server, w); !sameValue(got, want) || !sameValue(says, wantSays) {
		t.Fatalf("%v, %d, %v:\n%v %v, want\n%v %v", b, server, w, got, says, want, wantSays)
	}
	checkBook(t, got)
	checkTurns(t, b, got, says)
	checkSays(t, b, says)
	if w.Kind != impl.MsgUp {
		if again, _ := impl.SrvHear(got, server, w); !sameValue(again, got) {
			t.Fatalf("%v, %d, %v: once more: %v", b, server, w, again)
		}
	}
	known := slowMsgOk(w) && slices.ContainsFunc(b.Servers, func(s impl.SrvServer) bool { return s.Server == server })
	if w.Kind == impl.MsgDown && known {
		left, leftSays := impl.SrvGone(b, server)
		ack := []impl.SrvSay{{Server: server, Word: impl.MsgWord{Kind: impl.MsgDownAck}}}
		if !sameValue(left, got) || !sameValue(says, append(ack, leftSays...)) {
			t.Fatalf("%v, %d: MsgDown %v %v, SrvGone %v %v", b, server, got, says, left, leftSays)
		}
	}
	if w.Kind == impl.MsgUp && known {
		checkToldAll(t, b, server, says)
	}
	return got, says
}

// checkToldAll says that one that comes up is told all that is off, in order, and the jam (P28).
func checkToldAll(t *testing.T, b impl.SrvBook, server int, says []impl.SrvSay) {
	t.Helper()
	var off []int
	jam := 0
	for _, say := range says {
		if say.Server == server && say.Word.Kind == impl.MsgOff {
			off = append(off, say.Word.Num)
		}
		if say.Server == server && say.Word.Kind == impl.MsgJam {
			jam = say.Word.Num
		}
	}
	if !slices.Equal(off, b.Off) || jam != b.Jam {
		t.Fatalf("%v, %d is told %v, %d", b, server, off, jam)
	}
}

func checkGone(t *testing.T, b impl.SrvBook, server int) (impl.SrvBook, []impl.SrvSay) {
	t.Helper()
	got, says := impl.SrvGone(b, server)
	if want, wantSays := slowSrvGone(b, server); !sameValue(got, want) || !sameValue(says, wantSays) {
		t.Fatalf("%v, %d is gone:\n%v %v, want\n%v %v", b, server, got, says, want, wantSays)
	}
	checkBook(t, got)
	checkTurns(t, b, got, says)
	checkSays(t, b, says)
	return got, says
}

func checkTick(t *testing.T, b impl.SrvBook) (impl.SrvBook, []impl.SrvSay, []impl.SrvDrop) {
	t.Helper()
	got, says, drops := impl.SrvTick(b)
	if want, wantSays, wantDrops := slowSrvTick(b); !sameValue(got, want) || !sameValue(says, wantSays) || !sameValue(drops, wantDrops) {
		t.Fatalf("%v ticks:\n%v %v %v, want\n%v %v %v", b, got, says, drops, want, wantSays, wantDrops)
	}
	checkBook(t, got)
	checkTurns(t, b, got, says)
	checkSays(t, b, says)
	return got, says, drops
}

func checkGive(t *testing.T, b impl.SrvBook, u impl.SrvUnit) (impl.SrvBook, []impl.SrvSay, int) {
	t.Helper()
	got, says, why := impl.SrvGive(b, u)
	if want, wantSays, wantWhy := slowSrvGive(b, u); !sameValue(got, want) || !sameValue(says, wantSays) || why != wantWhy {
		t.Fatalf("%v is given %v:\n%v %v %d, want\n%v %v %d", b, u, got, says, why, want, wantSays, wantWhy)
	}
	checkBook(t, got)
	checkSays(t, b, says)
	if why != 0 && (len(says) != 0 || !sameValue(got, b)) {
		t.Fatalf("%v is given %v, dropped for %d: %v %v", b, u, why, got, says)
	}
	return got, says, why
}

func checkTell(t *testing.T, b impl.SrvBook, w impl.MsgWord) impl.SrvBook {
	t.Helper()
	got, says := impl.SrvTell(b, w)
	if want, wantSays := slowSrvTell(b, w); !sameValue(got, want) || !sameValue(says, wantSays) {
		t.Fatalf("%v, tells %v:\n%v %v, want\n%v %v", b, w, got, says, want, wantSays)
	}
	checkBook(t, got)
	checkSays(t, b, says)
	// What turned is told to all that are up, and what did not to nobody (P28).
	up := 0
	for _, s := range b.Servers {
		if s.Up && !sameValue(got, b) {
			up++
		}
	}
	if len(says) != up {
		t.Fatalf("%v, tells %v: %v", b, w, says)
	}
	return got
}

// serversOf are all that servers with these names may be at these ranges: not up, or up, and active for some.
func serversOf(names []int, ctxs []int) [][]impl.SrvServer {
	if len(names) == 0 {
		return [][]impl.SrvServer{nil}
	}
	var out [][]impl.SrvServer
	for _, others := range serversOf(names[1:], ctxs) {
		out = append(out, append([]impl.SrvServer{{Server: names[0]}}, others...))
		for set := range 1 << len(ctxs) {
			s := impl.SrvServer{Server: names[0], Up: true}
			for i, ctx := range ctxs {
				if set>>i&1 == 1 {
					s.Active = append(s.Active, ctx)
				}
			}
			out = append(out, append([]impl.SrvServer{s}, others...))
		}
	}
	return out
}

// booksOf are all books that are ok with these keys and servers, with nothing off and no jam; a range that is pending has so many ticks left, and so many wait.
func booksOf(keys []impl.KeyRow, names []int, lefts []int, waits []int) []impl.SrvBook {
	var ctxs []int
	for _, row := range keys {
		ctxs = append(ctxs, row.Ctx)
	}
	var out []impl.SrvBook
	for _, servers := range serversOf(names, ctxs) {
		books := []impl.SrvBook{{Keys: keys, Servers: servers}}
		for _, row := range keys {
			var longer []impl.SrvBook
			for _, b := range books {
				for _, r := range rangesOf(row, lefts, waits) {
					with := b
					with.Ranges = append(slices.Clone(b.Ranges), r)
					longer = append(longer, with)
				}
			}
			books = longer
		}
		for _, b := range books {
			if slowSrvOk(b) {
				out = append(out, b)
			}
		}
	}
	return out
}

func rangesOf(row impl.KeyRow, lefts []int, waits []int) []impl.SrvRange {
	out := []impl.SrvRange{{Ctx: row.Ctx}, {Ctx: row.Ctx, State: impl.SrvIdle}, {Ctx: row.Ctx, State: impl.SrvActive}}
	for _, left := range lefts {
		for _, n := range waits {
			r := impl.SrvRange{Ctx: row.Ctx, State: impl.SrvPending, Left: left}
			for i := range n {
				r.Wait = append(r.Wait, give(100*row.Ctx+i, row.Low+i%2, 5*i%16))
			}
			out = append(out, r)
		}
	}
	return out
}

// checkAllOf does all that there is to be done to a book.
func checkAllOf(t *testing.T, b impl.SrvBook) {
	t.Helper()
	words := []impl.MsgWord{{Kind: impl.MsgUp}, {Kind: impl.MsgDown}, {Kind: impl.MsgActive, Ctx: 9}, {Kind: impl.MsgIdle, Ctx: 9}, {Kind: impl.MsgAsk, Num: 5}, {Kind: impl.MsgUpAck}, {Kind: impl.MsgActive}}
	for _, row := range b.Keys {
		words = append(words, impl.MsgWord{Kind: impl.MsgActive, Ctx: row.Ctx}, impl.MsgWord{Kind: impl.MsgIdle, Ctx: row.Ctx})
	}
	for _, server := range []int{3, 5, 8, 9} {
		for _, w := range words {
			checkHear(t, b, server, w)
		}
		checkGone(t, b, server)
	}
	checkTick(t, b)
	for _, row := range b.Keys {
		for _, sls := range []int{0, 1, 2, 3, 14, 15} {
			checkGive(t, b, give(60, row.Low, sls))
			checkGive(t, b, give(60, row.High, sls))
		}
	}
	checkGive(t, b, give(60, 999, 1))
	for kind := impl.MsgOff; kind <= impl.MsgJam; kind++ {
		checkTell(t, b, impl.MsgWord{Kind: kind, Num: 1})
	}
}

// Each book of one range, with up to three servers.
func TestSrvOfAllBooksOfOneRange(t *testing.T) {
	books := 0
	for mode := impl.KeyOne; mode <= impl.KeyAll; mode++ {
		for n := range 4 {
			for _, b := range booksOf(keyOf(mode), []int{3, 5, 8}[:n], []int{1, 2, 5}, []int{0, 1, 3, 6}) {
				checkAllOf(t, b)
				books++
			}
		}
	}
	if books < 300 {
		t.Errorf("%d books", books)
	}
}

// Each book of two ranges, with two servers: several may settle at once.
func TestSrvOfAllBooksOfTwoRanges(t *testing.T) {
	books := 0
	for mode := impl.KeyOne; mode <= impl.KeyAll; mode++ {
		for other := impl.KeyOne; other <= impl.KeyAll; other++ {
			keys := []impl.KeyRow{{Ctx: 2, Low: 500, High: 501, Mode: mode}, {Ctx: 6, Low: 0, High: 499, Mode: other}}
			for _, b := range booksOf(keys, []int{5, 8}, []int{1, 5}, []int{2}) {
				checkAllOf(t, b)
				books++
			}
		}
	}
	if books < 500 {
		t.Errorf("%d books", books)
	}
}

// Each server of a full book leaves and comes back: all four ranges settle at once.
func TestSrvOfFullBooks(t *testing.T) {
	for _, b := range goodBooks() {
		for _, s := range b.Servers {
			for _, kind := range []int{impl.MsgUp, impl.MsgDown} {
				turned, _ := checkHear(t, b, s.Server, impl.MsgWord{Kind: kind})
				for _, row := range b.Keys {
					risen, _ := checkHear(t, turned, s.Server, impl.MsgWord{Kind: impl.MsgUp})
					checkHear(t, risen, s.Server, impl.MsgWord{Kind: impl.MsgActive, Ctx: row.Ctx})
				}
			}
			checkGone(t, b, s.Server)
		}
		checkTick(t, b)
	}
}

// srvLedger follows the units that a book was given: each is said, or dropped, or still waits (P27).
type srvLedger struct {
	t     *testing.T
	waits map[int]int
	over  map[int]bool
	turns map[string]int
}

func newSrvLedger(t *testing.T) *srvLedger {
	return &srvLedger{t: t, waits: map[int]int{}, over: map[int]bool{}, turns: map[string]int{}}
}

// said says that what is said of units is said in order, each of them once to each server that it is for (P27, P46).
func (l *srvLedger) said(b impl.SrvBook, says []impl.SrvSay) {
	to := map[int][]int{}
	last := map[[2]int]int{}
	for _, say := range says {
		w := say.Word
		if w.Kind != impl.MsgData {
			continue
		}
		at := [2]int{say.Server, w.Ctx}
		if w.Num <= last[at] {
			l.t.Fatalf("%v: #%d is said behind #%d", b, w.Num, last[at])
		}
		last[at] = w.Num
		to[w.Num] = append(to[w.Num], say.Server)
		l.turn(b, w, say.Server)
	}
	for mark, servers := range to {
		if _, waits := l.waits[mark]; !waits || l.over[mark] {
			l.t.Fatalf("#%d is said again to %v", mark, servers)
		}
		l.end(mark)
		l.toWhom(b, says, mark, servers)
	}
}

// turn says that one choice goes to one server, as long as the same ones are active (P46).
func (l *srvLedger) turn(b impl.SrvBook, w impl.MsgWord, server int) {
	at := slices.IndexFunc(b.Keys, func(row impl.KeyRow) bool { return row.Ctx == w.Ctx })
	if b.Keys[at].Mode == impl.KeyAll {
		return
	}
	choice := fmt.Sprint(w.Ctx, w.Sls, activeFor(b, w.Ctx))
	if was, known := l.turns[choice]; known && was != server {
		l.t.Fatalf("%s: to %d, and to %d", choice, was, server)
	}
	l.turns[choice] = server
}

func (l *srvLedger) toWhom(b impl.SrvBook, says []impl.SrvSay, mark int, servers []int) {
	at := slices.IndexFunc(says, func(say impl.SrvSay) bool { return say.Word.Kind == impl.MsgData && say.Word.Num == mark })
	w := says[at].Word
	row := b.Keys[slowMatch(b.Keys, w.Dest)]
	active := activeFor(b, w.Ctx)
	each := row.Mode == impl.KeyAll && slices.Equal(servers, active)
	one := row.Mode != impl.KeyAll && len(servers) == 1 && slices.Contains(active, servers[0])
	if row.Ctx != w.Ctx || !each && !one || !slices.Equal(w.Body, give(mark, w.Dest, w.Sls).Body) {
		l.t.Fatalf("%v is said to %v, %v are active", w, servers, active)
	}
}

func (l *srvLedger) end(mark int) {
	delete(l.waits, mark)
	l.over[mark] = true
}

func (l *srvLedger) tick(drops []impl.SrvDrop) {
	for _, d := range drops {
		if _, waits := l.waits[d.Mark]; !waits || d.Why != impl.SrvExpired {
			l.t.Fatalf("%v is dropped", d)
		}
		l.end(d.Mark)
	}
	for mark := range l.waits {
		if l.waits[mark]++; l.waits[mark] >= impl.SrvTr {
			l.t.Fatalf("#%d waits for %d ticks", mark, l.waits[mark])
		}
	}
}

// balance says that what waits in the book is what waits.
func (l *srvLedger) balance(b impl.SrvBook) {
	n := 0
	for _, r := range b.Ranges {
		for _, u := range r.Wait {
			if _, waits := l.waits[u.Mark]; !waits {
				l.t.Fatalf("#%d waits", u.Mark)
			}
			n++
		}
	}
	if n != len(l.waits) {
		l.t.Fatalf("%d wait, and not %d", n, len(l.waits))
	}
}

// someWord is a message by chance that a server may say, mostly a good one.
func someWord(chance *rand.Rand) impl.MsgWord {
	ctx := []int{1, 2, 4, 7, 7, 3}[chance.Intn(6)]
	switch n := chance.Intn(20); {
	case n < 4:
		return impl.MsgWord{Kind: impl.MsgUp}
	case n < 5:
		return impl.MsgWord{Kind: impl.MsgDown}
	case n < 14:
		return impl.MsgWord{Kind: impl.MsgActive, Ctx: ctx}
	case n < 17:
		return impl.MsgWord{Kind: impl.MsgIdle, Ctx: ctx}
	case n < 18:
		return impl.MsgWord{Kind: impl.MsgAsk, Num: chance.Intn(8)}
	case n < 19:
		return msgOf(1 + chance.Intn(15))
	}
	bad := badMsgs()
	return bad[chance.Intn(len(bad))]
}

// P2, P27, P28, P46, P47, P61: along many deeds by chance a book stays ok, and is as the slow reading has it.
func TestSrvAlongManyDeeds(t *testing.T) {
	chance := rand.New(rand.NewSource(13))
	seen := map[string]int{}
	for walk := range 60 {
		keys := fourKeys()
		for i := range keys {
			keys[i].Mode = 1 + (walk+chance.Intn(3))%3
		}
		b := openBook(keys, 11, 12, 13)
		ledger := newSrvLedger(t)
		for mark := 1; mark <= 250; mark++ {
			b = someDeed(t, chance, ledger, b, mark, seen)
			ledger.balance(b)
		}
	}
	for _, what := range []string{"why -1", "why 0", "why 1", "why 2", "why 4", "why 5", "dropped", "said on", "taken"} {
		if seen[what] < 10 {
			t.Errorf("%s: %d times", what, seen[what])
		}
	}
}

// someDeed does something by chance; the mark is that of a unit, if one is given.
func someDeed(t *testing.T, chance *rand.Rand, ledger *srvLedger, b impl.SrvBook, mark int, seen map[string]int) impl.SrvBook {
	t.Helper()
	server := []int{11, 12, 13, 11, 12, 13, 99}[chance.Intn(7)]
	var says []impl.SrvSay
	switch n := chance.Intn(100); {
	case n < 40:
		b, says = checkHear(t, b, server, someWord(chance))
		for _, say := range says {
			switch {
			case say.Word.Kind == impl.MsgData:
				seen["said on"]++
			case say.Word.Kind == impl.MsgState && say.Word.Num == impl.SrvTaken:
				seen["taken"]++
			}
		}
	case n < 46:
		b, says = checkGone(t, b, server)
	case n < 58:
		var drops []impl.SrvDrop
		b, says, drops = checkTick(t, b)
		ledger.tick(drops)
		seen["dropped"] += len(drops)
	case n < 90:
		u := give(mark, chance.Intn(420), chance.Intn(16))
		if chance.Intn(3) > 0 {
			u.Dest = 300 + chance.Intn(5)
			u.Body = give(mark, u.Dest, u.Sls).Body
		}
		if chance.Intn(20) == 0 {
			u = badUnits()[chance.Intn(len(badUnits()))]
		}
		var why int
		b, says, why = checkGive(t, b, u)
		seen[fmt.Sprint("why ", why)]++
		if why == 0 {
			ledger.waits[mark] = 0
		}
	default:
		dest := []int{300, 301, 302, 303, 5, 999, 1000, -1, chance.Intn(9)}[chance.Intn(9)]
		b = checkTell(t, b, impl.MsgWord{Kind: 10 + chance.Intn(4), Num: dest})
	}
	ledger.said(b, says)
	return b
}

// What a gateway's book answers is new memory, and nothing is written into a book, a message or a unit.
func TestSrvMemory(t *testing.T) {
	for _, plain := range goodBooks() {
		b := roomy(plain)
		for _, server := range []int{11, 12, 13, 3, 99} {
			words := []impl.MsgWord{msgOf(impl.MsgUp), msgOf(impl.MsgDown), msgOf(impl.MsgAsk), msgOf(impl.MsgData), {Kind: impl.MsgUp, Body: []byte{1}}}
			for _, row := range b.Keys {
				words = append(words, impl.MsgWord{Kind: impl.MsgActive, Ctx: row.Ctx}, impl.MsgWord{Kind: impl.MsgIdle, Ctx: row.Ctx})
			}
			for _, word := range words {
				w := roomy(word)
				checkMemory(t, "SrvHear", func() []any {
					got, says := impl.SrvHear(b, server, w)
					return []any{got, says}
				}, b, w)
			}
			checkMemory(t, "SrvGone", func() []any {
				got, says := impl.SrvGone(b, server)
				return []any{got, says}
			}, b)
		}
		checkMemory(t, "SrvTick", func() []any {
			got, says, drops := impl.SrvTick(b)
			return []any{got, says, drops}
		}, b)
		for _, dest := range []int{0, 6, 100, 250, 300, 399, 999} {
			u := roomy(give(3, dest, 1))
			checkMemory(t, "SrvGive", func() []any {
				got, says, _ := impl.SrvGive(b, u)
				return []any{got, says}
			}, b, u)
		}
		for _, word := range []impl.MsgWord{{Kind: impl.MsgOff, Num: 7}, {Kind: impl.MsgOff, Num: 5}, {Kind: impl.MsgOn, Num: 150}, {Kind: impl.MsgOn, Num: 8}, {Kind: impl.MsgJam, Num: 1}, msgOf(impl.MsgData)} {
			w := roomy(word)
			checkMemory(t, "SrvTell", func() []any {
				got, says := impl.SrvTell(b, w)
				return []any{got, says}
			}, b, w)
		}
	}
	for _, plain := range badBooks() {
		b := roomy(plain)
		checkMemory(t, "SrvOk", func() []any {
			impl.SrvOk(b)
			return nil
		}, b)
	}
	for _, plain := range goodKeys() {
		keys, servers := roomy(plain), roomy([]int{3, 5, 8})
		checkMemory(t, "SrvOpen", func() []any {
			got, _ := impl.SrvOpen(keys, servers)
			return []any{got}
		}, keys, servers)
	}
}
