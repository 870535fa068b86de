package tests

import (
	"fmt"
	"math"
	"slices"
	"strconv"
	"strings"
	"testing"

	"loop.example/trunk/impl"
)

// slowGate is a gateway's book that does what the document tells, line by line, and what it says and drops.
type slowGate struct {
	book  impl.SrvBook
	says  []impl.SrvSay
	drops []impl.SrvDrop
}

func slowGateOf(b impl.SrvBook) *slowGate { return &slowGate{book: roomy(b)} }

func (g *slowGate) tell(server int, w impl.MsgWord) {
	g.says = append(g.says, impl.SrvSay{Server: server, Word: w})
}

func (g *slowGate) tellUp(w impl.MsgWord) {
	for _, s := range g.book.Servers {
		if s.Up {
			g.tell(s.Server, w)
		}
	}
}

func (g *slowGate) someUp() bool {
	return slices.ContainsFunc(g.book.Servers, func(s impl.SrvServer) bool { return s.Up })
}

// activeFor tells who is active for a range of a book, in order.
func activeFor(b impl.SrvBook, ctx int) []int {
	var out []int
	for _, s := range b.Servers {
		if slices.Contains(s.Active, ctx) {
			out = append(out, s.Server)
		}
	}
	return out
}

func (g *slowGate) say(row impl.KeyRow, u impl.SrvUnit) {
	active := activeFor(g.book, row.Ctx)
	for place, server := range active {
		if row.Mode == 3 || place == u.Sls%len(active) {
			g.tell(server, impl.MsgWord{Kind: 10, Ctx: row.Ctx, Num: u.Mark, Dest: u.Dest, Sls: u.Sls, Body: u.Body})
		}
	}
}

func (g *slowGate) settle() {
	for i, row := range g.book.Keys {
		r := &g.book.Ranges[i]
		to := 0
		if len(activeFor(g.book, row.Ctx)) > 0 {
			to = 2
		} else if r.State == 2 || r.State == 3 {
			to = 3
		} else if g.someUp() {
			to = 1
		}
		if to == r.State {
			continue
		}
		r.State, r.Left = to, 0
		if to == 3 {
			r.Left = 5
		}
		g.tellUp(impl.MsgWord{Kind: 9, Ctx: row.Ctx, Num: to})
		if to == 2 {
			for _, u := range r.Wait {
				g.say(row, u)
			}
			r.Wait = nil
		}
	}
}

func (g *slowGate) hear(at int, w impl.MsgWord) {
	s := &g.book.Servers[at]
	switch w.Kind {
	case 1:
		s.Up, s.Active = true, nil
		g.tell(s.Server, impl.MsgWord{Kind: 2})
		for _, dest := range g.book.Off {
			g.tell(s.Server, impl.MsgWord{Kind: 11, Num: dest})
		}
		if g.book.Jam > 0 {
			g.tell(s.Server, impl.MsgWord{Kind: 13, Num: g.book.Jam})
		}
		g.settle()
		for _, r := range g.book.Ranges {
			g.tell(s.Server, impl.MsgWord{Kind: 9, Ctx: r.Ctx, Num: r.State})
		}
	case 3:
		g.tell(s.Server, impl.MsgWord{Kind: 4})
		s.Up, s.Active = false, nil
		g.settle()
	case 5, 7:
		g.serve(at, w.Kind == 5, w.Ctx)
	case 14:
		kind := 12
		if slices.Contains(g.book.Off, w.Num) {
			kind = 11
		}
		g.tell(s.Server, impl.MsgWord{Kind: kind, Num: w.Num})
	default:
		g.tell(s.Server, impl.MsgWord{Kind: 15, Num: 3})
	}
}

func (g *slowGate) serve(at int, active bool, ctx int) {
	s := &g.book.Servers[at]
	row := slices.IndexFunc(g.book.Keys, func(row impl.KeyRow) bool { return row.Ctx == ctx })
	if !s.Up {
		g.tell(s.Server, impl.MsgWord{Kind: 15, Num: 1})
		return
	}
	if row < 0 {
		g.tell(s.Server, impl.MsgWord{Kind: 15, Num: 2})
		return
	}
	if !active {
		g.tell(s.Server, impl.MsgWord{Kind: 8, Ctx: ctx})
		s.Active = less(s.Active, ctx)
		g.settle()
		return
	}
	g.tell(s.Server, impl.MsgWord{Kind: 6, Ctx: ctx})
	for i := range g.book.Servers {
		other := &g.book.Servers[i]
		if i != at && g.book.Keys[row].Mode == 1 && slices.Contains(other.Active, ctx) {
			other.Active = less(other.Active, ctx)
			g.tell(other.Server, impl.MsgWord{Kind: 9, Ctx: ctx, Num: 4})
		}
	}
	s.Active = more(s.Active, ctx)
	g.settle()
}

// more and less are the list, in order, with the number once, and without it.
func more(list []int, n int) []int {
	out := append(slices.Clone(list), n)
	slices.Sort(out)
	return slices.Compact(out)
}

func less(list []int, n int) []int {
	var out []int
	for _, other := range list {
		if other != n {
			out = append(out, other)
		}
	}
	return out
}

func slowSrvHear(b impl.SrvBook, server int, w impl.MsgWord) (impl.SrvBook, []impl.SrvSay) {
	if !slowSrvOk(b) {
		return impl.SrvBook{}, nil
	}
	g := slowGateOf(b)
	for at, s := range b.Servers {
		if s.Server == server && slowMsgOk(w) {
			g.hear(at, w)
		}
	}
	return g.book, g.says
}

func slowSrvGone(b impl.SrvBook, server int) (impl.SrvBook, []impl.SrvSay) {
	if !slowSrvOk(b) {
		return impl.SrvBook{}, nil
	}
	g := slowGateOf(b)
	for at, s := range b.Servers {
		if s.Server == server {
			g.book.Servers[at] = impl.SrvServer{Server: server}
		}
	}
	g.settle()
	return g.book, g.says
}

func slowSrvTick(b impl.SrvBook) (impl.SrvBook, []impl.SrvSay, []impl.SrvDrop) {
	if !slowSrvOk(b) {
		return impl.SrvBook{}, nil, nil
	}
	g := slowGateOf(b)
	for i := range g.book.Ranges {
		r := &g.book.Ranges[i]
		if r.State != 3 {
			continue
		}
		if r.Left--; r.Left > 0 {
			continue
		}
		for _, u := range r.Wait {
			g.drops = append(g.drops, impl.SrvDrop{Mark: u.Mark, Why: 3})
		}
		r.Wait, r.State = nil, 0
		if g.someUp() {
			r.State = 1
		}
		g.tellUp(impl.MsgWord{Kind: 9, Ctx: r.Ctx, Num: r.State})
	}
	return g.book, g.says, g.drops
}

func slowSrvUnitOk(u impl.SrvUnit) bool {
	return u.Mark >= 0 && u.Mark <= 1000000 && u.Dest >= 0 && u.Dest <= 999 && u.Sls >= 0 && u.Sls <= 15 && len(u.Body) >= 1 && len(u.Body) <= 12
}

func slowSrvGive(b impl.SrvBook, u impl.SrvUnit) (impl.SrvBook, []impl.SrvSay, int) {
	if !slowSrvOk(b) {
		return impl.SrvBook{}, nil, -1
	}
	g := slowGateOf(b)
	if !slowSrvUnitOk(u) {
		return g.book, nil, -1
	}
	at := slowMatch(b.Keys, u.Dest)
	if at < 0 {
		return g.book, nil, 1
	}
	if slices.Contains(b.Off, u.Dest) {
		return g.book, nil, 5
	}
	r := &g.book.Ranges[at]
	if r.State < 2 {
		return g.book, nil, 2
	}
	if r.State == 3 && len(r.Wait) == 6 {
		return g.book, nil, 4
	}
	if r.State == 3 {
		r.Wait = append(r.Wait, roomy(u))
	} else {
		g.say(b.Keys[at], u)
	}
	return g.book, g.says, 0
}

func slowSrvTell(b impl.SrvBook, w impl.MsgWord) (impl.SrvBook, []impl.SrvSay) {
	if !slowSrvOk(b) {
		return impl.SrvBook{}, nil
	}
	g := slowGateOf(b)
	isOff := slices.Contains(b.Off, w.Num)
	switch w.Kind {
	case 11:
		if w.Num < 0 || w.Num > 999 || isOff || len(b.Off) >= 6 {
			return g.book, nil
		}
		g.book.Off = more(b.Off, w.Num)
	case 12:
		if !isOff {
			return g.book, nil
		}
		g.book.Off = less(b.Off, w.Num)
	case 13:
		if w.Num < 0 || w.Num > 3 || w.Num == b.Jam {
			return g.book, nil
		}
		g.book.Jam = w.Num
	default:
		return g.book, nil
	}
	g.tellUp(impl.MsgWord{Kind: w.Kind, Num: w.Num})
	return g.book, g.says
}

// rising says whether numbers ascend from least to most, as so many at most.
func rising(list []int, least int, most int, room int) bool {
	last := least - 1
	for _, n := range list {
		if n <= last || n > most {
			return false
		}
		last = n
	}
	return len(list) <= room
}

func slowSrvOk(b impl.SrvBook) bool {
	if !slowKeyOk(b.Keys) || !rising(b.Off, 0, 999, 6) || b.Jam < 0 || b.Jam > 3 || len(b.Ranges) != len(b.Keys) {
		return false
	}
	var names, ctxs []int
	for _, row := range b.Keys {
		ctxs = append(ctxs, row.Ctx)
	}
	for _, s := range b.Servers {
		names = append(names, s.Server)
		if !rising(s.Active, 1, 9, 9) || !s.Up && len(s.Active) != 0 {
			return false
		}
		for _, ctx := range s.Active {
			if !slices.Contains(ctxs, ctx) {
				return false
			}
		}
	}
	if !rising(names, 0, 65535, 3) {
		return false
	}
	for at, r := range b.Ranges {
		if r.Ctx != ctxs[at] || !slowRangeOk(b, at) {
			return false
		}
	}
	return true
}

func slowRangeOk(b impl.SrvBook, at int) bool {
	r := b.Ranges[at]
	active := len(activeFor(b, r.Ctx))
	someUp := slowGateOf(b).someUp()
	if r.State < 0 || r.State > 3 || (r.State == 2) != (active > 0) || b.Keys[at].Mode == 1 && active > 1 {
		return false
	}
	if r.State < 2 && (r.State == 1) != someUp {
		return false
	}
	if r.State != 3 {
		return r.Left == 0 && len(r.Wait) == 0
	}
	for _, u := range r.Wait {
		if !slowSrvUnitOk(u) || slowMatch(b.Keys, u.Dest) != at {
			return false
		}
	}
	return r.Left >= 1 && r.Left <= 5 && len(r.Wait) <= 6
}

// give is a unit; its mark shows in its body.
func give(mark int, dest int, sls int) impl.SrvUnit {
	return impl.SrvUnit{Mark: mark, Dest: dest, Sls: sls, Body: []byte{byte(mark), byte(dest), byte(sls)}}
}

// fourKeys have a range of each mode, and a second one that one server serves.
func fourKeys() []impl.KeyRow {
	return []impl.KeyRow{
		{Ctx: 1, Low: 0, High: 99, Mode: impl.KeyOne},
		{Ctx: 2, Low: 100, High: 199, Mode: impl.KeyShare},
		{Ctx: 4, Low: 200, High: 299, Mode: impl.KeyAll},
		{Ctx: 7, Low: 300, High: 399, Mode: impl.KeyOne},
	}
}

// busyBook has ranges in some states, and all else that a book may have.
func busyBook() impl.SrvBook {
	return impl.SrvBook{
		Keys:    fourKeys(),
		Servers: []impl.SrvServer{{Server: 11, Up: true, Active: []int{1, 2, 4}}, {Server: 12, Up: true, Active: []int{2, 4}}, {Server: 13}},
		Ranges: []impl.SrvRange{
			{Ctx: 1, State: impl.SrvActive}, {Ctx: 2, State: impl.SrvActive}, {Ctx: 4, State: impl.SrvActive},
			{Ctx: 7, State: impl.SrvPending, Left: 3, Wait: []impl.SrvUnit{give(5, 300, 2), give(8, 399, 7)}},
		},
		Off: []int{5, 150},
		Jam: 2,
	}
}

// turnedBook is the busy book behind some turn.
func turnedBook(turn func(b *impl.SrvBook)) impl.SrvBook {
	b := busyBook()
	turn(&b)
	return b
}

// openBook is a book at its beginning that must be one.
func openBook(keys []impl.KeyRow, servers ...int) impl.SrvBook {
	b, ok := impl.SrvOpen(keys, servers)
	if !ok {
		panic("no book")
	}
	return b
}

// goodBooks are ok, some at bounds.
func goodBooks() map[string]impl.SrvBook {
	six := []impl.SrvUnit{give(0, 300, 0), give(1000000, 399, 15), give(1, 301, 1), give(1, 301, 1), give(2, 302, 0), give(3, 303, 9)}
	out := map[string]impl.SrvBook{
		"nothing":         {},
		"no servers":      openBook(fourKeys()),
		"no keys":         openBook(nil, 0, 65535),
		"busy":            busyBook(),
		"three servers":   openBook(fourKeys(), 0, 1, 65535),
		"Left at 1":       turnedBook(func(b *impl.SrvBook) { b.Ranges[3].Left = 1 }),
		"Left at SrvTr":   turnedBook(func(b *impl.SrvBook) { b.Ranges[3].Left = 5 }),
		"six wait":        turnedBook(func(b *impl.SrvBook) { b.Ranges[3].Wait = six }),
		"none waits":      turnedBook(func(b *impl.SrvBook) { b.Ranges[3].Wait = nil }),
		"six are off":     turnedBook(func(b *impl.SrvBook) { b.Off = []int{0, 1, 2, 300, 998, 999} }),
		"one that waits":  turnedBook(func(b *impl.SrvBook) { b.Off = []int{399} }),
		"most jam":        turnedBook(func(b *impl.SrvBook) { b.Jam = 3 }),
		"no jam":          turnedBook(func(b *impl.SrvBook) { b.Jam = 0 }),
		"up, not active":  turnedBook(func(b *impl.SrvBook) { b.Servers[2].Up = true }),
		"up for the last": turnedBook(func(b *impl.SrvBook) { b.Ranges[3] = impl.SrvRange{Ctx: 7, State: impl.SrvIdle} }),
		"all are pending": turnedBook(func(b *impl.SrvBook) {
			for i := range b.Servers {
				b.Servers[i].Up, b.Servers[i].Active = false, nil
			}
			for i := range b.Ranges[:3] {
				b.Ranges[i].State, b.Ranges[i].Left = impl.SrvPending, 1+i
			}
		}),
		"all active for all they may": turnedBook(func(b *impl.SrvBook) {
			b.Servers[0].Active, b.Servers[1].Active = []int{1, 2, 4, 7}, []int{2, 4}
			b.Servers[2] = impl.SrvServer{Server: 13, Up: true, Active: []int{2, 4}}
			b.Ranges[3] = impl.SrvRange{Ctx: 7, State: impl.SrvActive}
		}),
	}
	for i, keys := range goodKeys() {
		out["keys "+strconv.Itoa(i)] = openBook(keys, 3, 5)
	}
	return out
}

// badUnits are not ok, each in one way.
func badUnits() []impl.SrvUnit {
	var out []impl.SrvUnit
	for _, place := range []func(u *impl.SrvUnit) (*int, int){
		func(u *impl.SrvUnit) (*int, int) { return &u.Mark, 1000000 },
		func(u *impl.SrvUnit) (*int, int) { return &u.Dest, 999 },
		func(u *impl.SrvUnit) (*int, int) { return &u.Sls, 15 },
	} {
		for _, n := range append([]int{16, 256, 65536 + 300, 1000, 1000001}, wide...) {
			u := give(5, 300, 2)
			at, most := place(&u)
			if *at = n; n < 0 || n > most {
				out = append(out, u)
			}
		}
	}
	for _, size := range []int{0, 13, 14, 48, 268} {
		u := give(5, 300, 2)
		u.Body = make([]byte, size)
		out = append(out, u)
	}
	return append(out, impl.SrvUnit{})
}

// badBooks are not ok, each in one of the ways that the document tells.
func badBooks() map[string]impl.SrvBook {
	turns := map[string]func(b *impl.SrvBook){
		"one more server than may be":       func(b *impl.SrvBook) { b.Servers = append(b.Servers, impl.SrvServer{Server: 14}) },
		"a server twice":                    func(b *impl.SrvBook) { b.Servers[2].Server = 12 },
		"servers descend":                   func(b *impl.SrvBook) { b.Servers[2].Server = 10 },
		"the first two descend":             func(b *impl.SrvBook) { b.Servers[0].Server = 99 },
		"a server below 0":                  func(b *impl.SrvBook) { b.Servers[0].Server = -1 },
		"a server that is not short":        func(b *impl.SrvBook) { b.Servers[2].Server = 65536 },
		"the greatest server":               func(b *impl.SrvBook) { b.Servers[2].Server = math.MaxInt },
		"Active descend":                    func(b *impl.SrvBook) { b.Servers[0].Active = []int{2, 1, 4} },
		"Active twice":                      func(b *impl.SrvBook) { b.Servers[0].Active = []int{1, 2, 2, 4} },
		"Active for no range":               func(b *impl.SrvBook) { b.Servers[0].Active = []int{1, 2, 3, 4} },
		"Active for the range 0":            func(b *impl.SrvBook) { b.Servers[0].Active = []int{0, 1, 2, 4} },
		"Active for a far range":            func(b *impl.SrvBook) { b.Servers[1].Active = []int{2, 4, 10} },
		"Active, not Up":                    func(b *impl.SrvBook) { b.Servers[1].Up = false },
		"Active with others, not Up":        func(b *impl.SrvBook) { b.Servers[2].Active = []int{2} },
		"a range too few":                   func(b *impl.SrvBook) { b.Ranges = b.Ranges[:3] },
		"no ranges":                         func(b *impl.SrvBook) { b.Ranges = nil },
		"a range too many":                  func(b *impl.SrvBook) { b.Ranges = append(b.Ranges, impl.SrvRange{Ctx: 8, State: 1}) },
		"the last range twice":              func(b *impl.SrvBook) { b.Ranges = append(b.Ranges, b.Ranges[3]) },
		"another range":                     func(b *impl.SrvBook) { b.Ranges[3].Ctx = 8 },
		"the range of another place":        func(b *impl.SrvBook) { b.Ranges[0].Ctx = 2 },
		"ranges in another order":           func(b *impl.SrvBook) { b.Ranges[0], b.Ranges[1] = b.Ranges[1], b.Ranges[0] },
		"one of all, in another order":      func(b *impl.SrvBook) { b.Ranges[2], b.Ranges[3] = b.Ranges[3], b.Ranges[2] },
		"a key too many":                    func(b *impl.SrvBook) { b.Keys = append(b.Keys, impl.KeyRow{Ctx: 8, Low: 400, High: 400, Mode: 1}) },
		"a key too few":                     func(b *impl.SrvBook) { b.Keys = b.Keys[:3] },
		"keys that are not ok":              func(b *impl.SrvBook) { b.Keys[1].Mode = 0 },
		"two servers of one that is KeyOne": func(b *impl.SrvBook) { b.Servers[1].Active = []int{1, 2, 4} },
		"two of the last one": func(b *impl.SrvBook) {
			b.Servers[0].Active, b.Servers[1].Active = []int{1, 2, 4, 7}, []int{2, 4, 7}
			b.Ranges[3] = impl.SrvRange{Ctx: 7, State: impl.SrvActive}
		},
		"SrvActive for nobody":          func(b *impl.SrvBook) { b.Ranges[3] = impl.SrvRange{Ctx: 7, State: impl.SrvActive} },
		"SrvIdle, though it is served":  func(b *impl.SrvBook) { b.Ranges[0].State = impl.SrvIdle },
		"SrvDown, though it is served":  func(b *impl.SrvBook) { b.Ranges[1].State = impl.SrvDown },
		"SrvPending, and it is served":  func(b *impl.SrvBook) { b.Ranges[2].State, b.Ranges[2].Left = impl.SrvPending, 3 },
		"SrvDown, though some are Up":   func(b *impl.SrvBook) { b.Ranges[3] = impl.SrvRange{Ctx: 7} },
		"SrvTaken":                      func(b *impl.SrvBook) { b.Ranges[3] = impl.SrvRange{Ctx: 7, State: impl.SrvTaken} },
		"SrvTaken, served":              func(b *impl.SrvBook) { b.Ranges[0].State = impl.SrvTaken },
		"a state below 0":               func(b *impl.SrvBook) { b.Ranges[3] = impl.SrvRange{Ctx: 7, State: -1} },
		"a state far off":               func(b *impl.SrvBook) { b.Ranges[0].State = math.MinInt },
		"SrvPending, Left 0":            func(b *impl.SrvBook) { b.Ranges[3].Left = 0 },
		"SrvPending, nothing":           func(b *impl.SrvBook) { b.Ranges[3].Left, b.Ranges[3].Wait = 0, nil },
		"Left one more than SrvTr":      func(b *impl.SrvBook) { b.Ranges[3].Left = 6 },
		"Left below 0":                  func(b *impl.SrvBook) { b.Ranges[3].Left = -1 },
		"Left of one that is SrvActive": func(b *impl.SrvBook) { b.Ranges[0].Left = 1 },
		"Left below 0 of SrvActive":     func(b *impl.SrvBook) { b.Ranges[0].Left = -1 },
		"Left of one that is SrvIdle":   func(b *impl.SrvBook) { b.Ranges[3] = impl.SrvRange{Ctx: 7, State: impl.SrvIdle, Left: 1} },
		"it waits at SrvActive":         func(b *impl.SrvBook) { b.Ranges[0].Wait = []impl.SrvUnit{give(1, 7, 1)} },
		"it waits at SrvIdle": func(b *impl.SrvBook) {
			b.Ranges[3] = impl.SrvRange{Ctx: 7, State: impl.SrvIdle, Wait: []impl.SrvUnit{give(1, 300, 1)}}
		},
		"one more waits than may":     func(b *impl.SrvBook) { b.Ranges[3].Wait = slices.Repeat([]impl.SrvUnit{give(1, 300, 1)}, 7) },
		"one waits of another range":  func(b *impl.SrvBook) { b.Ranges[3].Wait[1].Dest = 299 },
		"one waits of the first one":  func(b *impl.SrvBook) { b.Ranges[3].Wait[0].Dest = 0 },
		"one waits of no range":       func(b *impl.SrvBook) { b.Ranges[3].Wait[1].Dest = 400 },
		"one more off than may be":    func(b *impl.SrvBook) { b.Off = []int{1, 2, 3, 4, 5, 6, 7} },
		"Off twice":                   func(b *impl.SrvBook) { b.Off = []int{5, 5} },
		"Off descend":                 func(b *impl.SrvBook) { b.Off = []int{150, 5} },
		"Off below 0":                 func(b *impl.SrvBook) { b.Off = []int{-1, 5} },
		"Off beyond":                  func(b *impl.SrvBook) { b.Off = []int{5, 1000} },
		"jam below 0":                 func(b *impl.SrvBook) { b.Jam = -1 },
		"jam beyond":                  func(b *impl.SrvBook) { b.Jam = 4 },
		"the least jam":               func(b *impl.SrvBook) { b.Jam = math.MinInt },
		"SrvIdle, though none is Up":  func(b *impl.SrvBook) { *b = openBook(b.Keys, 11, 12); b.Ranges[2].State = impl.SrvIdle },
		"SrvIdle without any server":  func(b *impl.SrvBook) { *b = openBook(b.Keys); b.Ranges[0].State = impl.SrvIdle },
		"SrvActive without a server":  func(b *impl.SrvBook) { *b = openBook(b.Keys); b.Ranges[0].State = impl.SrvActive },
		"SrvDown with a new server":   func(b *impl.SrvBook) { *b = openBook(b.Keys, 11, 12); b.Servers[1].Up = true },
		"Left of one that is SrvDown": func(b *impl.SrvBook) { *b = openBook(b.Keys, 11); b.Ranges[1].Left = 5 },
		"it waits at SrvDown":         func(b *impl.SrvBook) { *b = openBook(b.Keys, 11); b.Ranges[0].Wait = []impl.SrvUnit{give(1, 7, 1)} },
	}
	out := map[string]impl.SrvBook{}
	for name, turn := range turns {
		out[name] = turnedBook(turn)
	}
	for i, u := range badUnits() {
		out["unit "+strconv.Itoa(i)] = turnedBook(func(b *impl.SrvBook) { b.Ranges[3].Wait[1] = u })
	}
	for name, keys := range badKeys() {
		b := impl.SrvBook{Keys: keys}
		for _, row := range keys {
			b.Ranges = append(b.Ranges, impl.SrvRange{Ctx: row.Ctx})
		}
		out["keys: "+name] = b
	}
	return out
}

func TestSrvConstants(t *testing.T) {
	got := []int{
		impl.SrvMaxServers, impl.SrvMaxWait, impl.SrvMaxOff, impl.SrvTr, impl.SrvMaxLevel,
		impl.SrvDown, impl.SrvIdle, impl.SrvActive, impl.SrvPending, impl.SrvTaken,
		impl.SrvNoKey, impl.SrvNobody, impl.SrvExpired, impl.SrvFull, impl.SrvOff, impl.SrvEnded,
	}
	if want := []int{3, 6, 6, 5, 3, 0, 1, 2, 3, 4, 1, 2, 3, 4, 5, 6}; !slices.Equal(got, want) {
		t.Errorf("%v, want %v", got, want)
	}
}

func TestSrvOkOfBooksThatAre(t *testing.T) {
	for name, b := range goodBooks() {
		if !slowSrvOk(b) || !impl.SrvOk(b) {
			t.Errorf("%s: %v is not ok", name, b)
		}
	}
}

// A book that is not ok has one answer at each function, whatever else is asked.
func TestSrvRefusesBooksThatAreNotOk(t *testing.T) {
	for name, b := range badBooks() {
		if slowSrvOk(b) || impl.SrvOk(b) {
			t.Errorf("%s: %v is ok", name, b)
		}
		for _, server := range []int{11, 12, 99} {
			for kind := 0; kind <= 16; kind++ {
				if got, says := impl.SrvHear(b, server, msgOf(kind)); !sameValue(got, impl.SrvBook{}) || len(says) != 0 {
					t.Errorf("%s: SrvHear: %v %v", name, got, says)
				}
				if got, says := impl.SrvTell(b, impl.MsgWord{Kind: kind, Num: 1}); !sameValue(got, impl.SrvBook{}) || len(says) != 0 {
					t.Errorf("%s: SrvTell: %v %v", name, got, says)
				}
			}
			if got, says := impl.SrvGone(b, server); !sameValue(got, impl.SrvBook{}) || len(says) != 0 {
				t.Errorf("%s: SrvGone: %v %v", name, got, says)
			}
		}
		if got, says, drops := impl.SrvTick(b); !sameValue(got, impl.SrvBook{}) || len(says) != 0 || len(drops) != 0 {
			t.Errorf("%s: SrvTick: %v %v %v", name, got, says, drops)
		}
		for _, u := range append(badUnits()[:3], give(1, 5, 0), give(1, 7, 1), give(1, 300, 1), give(1, 999, 1)) {
			if got, says, why := impl.SrvGive(b, u); !sameValue(got, impl.SrvBook{}) || len(says) != 0 || why != -1 {
				t.Errorf("%s: SrvGive: %v %v %d", name, got, says, why)
			}
		}
	}
}

func TestSrvOkOfEachNumber(t *testing.T) {
	for name, b := range goodBooks() {
		for at := range numbersOf(&b) {
			for _, n := range append([]int{3, 4, 5, 6, 10, 11, 12, 13, 14, 99, 100, 199, 200, 299, 300, 399, 400, 999, 1000}, wide...) {
				turned := roomy(b)
				*numbersOf(&turned)[at] = n
				if got := impl.SrvOk(turned); got != slowSrvOk(turned) {
					t.Errorf("%s: %v: ok is %v", name, turned, got)
				}
			}
		}
	}
}

func TestSrvOpen(t *testing.T) {
	for _, keys := range goodKeys() {
		for _, servers := range [][]int{nil, {}, {0}, {7}, {65535}, {11, 12}, {0, 65535}, {1, 2, 3}, {11, 500, 65535}} {
			want := impl.SrvBook{Keys: keys}
			for _, row := range keys {
				want.Ranges = append(want.Ranges, impl.SrvRange{Ctx: row.Ctx})
			}
			for _, server := range servers {
				want.Servers = append(want.Servers, impl.SrvServer{Server: server})
			}
			b, ok := impl.SrvOpen(keys, servers)
			if !ok || !impl.SrvOk(b) || !sameValue(b, want) {
				t.Errorf("%v, %v: %v %v", keys, servers, b, ok)
			}
		}
	}
}

func TestSrvOpenRefuses(t *testing.T) {
	for name, keys := range badKeys() {
		if b, ok := impl.SrvOpen(keys, []int{11}); ok || !sameValue(b, impl.SrvBook{}) {
			t.Errorf("%s: %v %v", name, b, ok)
		}
	}
	badServers := [][]int{{1, 2, 3, 4}, {5, 5}, {6, 5}, {1, 2, 2}, {1, 3, 2}, {-1}, {-1, 5}, {65536}, {5, 65536}, {math.MinInt}, {math.MaxInt}, make([]int, 1000)}
	for _, servers := range badServers {
		for _, keys := range goodKeys() {
			if b, ok := impl.SrvOpen(keys, servers); ok || !sameValue(b, impl.SrvBook{}) {
				t.Errorf("%v: %v %v", servers, b, ok)
			}
		}
	}
}

// spoken is what is said, in short.
func spoken(says []impl.SrvSay) string {
	names := []string{"?", "Up", "UpAck", "Down", "DownAck", "Active", "ActiveAck", "Idle", "IdleAck", "State", "Data", "Off", "On", "Jam", "Ask", "Bad"}
	var out []string
	for _, s := range says {
		text := fmt.Sprintf("%d %s", s.Server, names[s.Word.Kind])
		if slices.Contains(msgRanged, s.Word.Kind) {
			text += fmt.Sprintf(" %d", s.Word.Ctx)
		}
		if slices.Contains(msgNumbered, s.Word.Kind) {
			text += fmt.Sprintf(" #%d", s.Word.Num)
		}
		out = append(out, text)
	}
	return strings.Join(out, ", ")
}

// standing is how the ranges of a book are, in short: each one's state, who is active for it, and, if it is pending, Left and the marks of what waits.
func standing(b impl.SrvBook) string {
	var out []string
	for _, r := range b.Ranges {
		text := fmt.Sprintf("%d %s", r.Ctx, []string{"down", "idle", "active", "pending"}[r.State])
		for _, server := range activeFor(b, r.Ctx) {
			text += fmt.Sprintf(" %d", server)
		}
		if r.State == impl.SrvPending {
			text += fmt.Sprintf(" %d", r.Left)
		}
		for _, u := range r.Wait {
			text += fmt.Sprintf(" #%d", u.Mark)
		}
		out = append(out, text)
	}
	return strings.Join(out, ", ")
}

// gateDeed is something that happens to a book; what it tells beside the book and what is said is a text.
type gateDeed func(b impl.SrvBook) (impl.SrvBook, []impl.SrvSay, string)

func hears(server int, kind int, ctx int, num int) gateDeed {
	return func(b impl.SrvBook) (impl.SrvBook, []impl.SrvSay, string) {
		b, says := impl.SrvHear(b, server, impl.MsgWord{Kind: kind, Ctx: ctx, Num: num})
		return b, says, ""
	}
}

func goes(server int) gateDeed {
	return func(b impl.SrvBook) (impl.SrvBook, []impl.SrvSay, string) {
		b, says := impl.SrvGone(b, server)
		return b, says, ""
	}
}

func ticks() gateDeed {
	return func(b impl.SrvBook) (impl.SrvBook, []impl.SrvSay, string) {
		b, says, drops := impl.SrvTick(b)
		text := ""
		for _, d := range drops {
			text += fmt.Sprintf("#%d for %d ", d.Mark, d.Why)
		}
		return b, says, strings.TrimSpace(text)
	}
}

func gives(mark int, dest int, sls int) gateDeed {
	return func(b impl.SrvBook) (impl.SrvBook, []impl.SrvSay, string) {
		b, says, why := impl.SrvGive(b, give(mark, dest, sls))
		return b, says, strconv.Itoa(why)
	}
}

func turns(kind int, num int) gateDeed {
	return func(b impl.SrvBook) (impl.SrvBook, []impl.SrvSay, string) {
		b, says := impl.SrvTell(b, impl.MsgWord{Kind: kind, Num: num})
		return b, says, ""
	}
}

// gateLine is one deed of a story, what is said then, what else is told, and how the ranges are behind it ("" is as they were).
type gateLine struct {
	deed gateDeed
	says string
	told string
	then string
}

func checkGateStory(t *testing.T, b impl.SrvBook, lines []gateLine) impl.SrvBook {
	t.Helper()
	for i, line := range lines {
		then := line.then
		if then == "" {
			then = standing(b)
		}
		next, says, told := line.deed(b)
		if spoken(says) != line.says || told != line.told || standing(next) != then || !impl.SrvOk(next) {
			t.Fatalf("line %d: %q, %q, %q, want %q, %q, %q", i, spoken(says), told, standing(next), line.says, line.told, then)
		}
		b = next
	}
	return b
}

// keyOf are keys of one range, of the destinations 0 to 99.
func keyOf(mode int) []impl.KeyRow {
	return []impl.KeyRow{{Ctx: 3, Low: 0, High: 99, Mode: mode}}
}

// Servers come up, become active and idle, go and are gone; told by hand.
func TestSrvStoryOfServers(t *testing.T) {
	keys := []impl.KeyRow{{Ctx: 1, Low: 0, High: 99, Mode: impl.KeyOne}, {Ctx: 2, Low: 100, High: 199, Mode: impl.KeyShare}, {Ctx: 3, Low: 200, High: 299, Mode: impl.KeyAll}}
	checkGateStory(t, openBook(keys, 11, 12, 13), []gateLine{
		{deed: hears(12, impl.MsgActive, 1, 0), says: "12 Bad #1", then: "1 down, 2 down, 3 down"},
		{deed: hears(12, impl.MsgActive, 9, 0), says: "12 Bad #1"},
		{deed: hears(12, impl.MsgIdle, 2, 0), says: "12 Bad #1"},
		{deed: hears(12, impl.MsgUp, 0, 0), says: "12 UpAck, 12 State 1 #1, 12 State 2 #1, 12 State 3 #1, 12 State 1 #1, 12 State 2 #1, 12 State 3 #1", then: "1 idle, 2 idle, 3 idle"},
		{deed: hears(12, impl.MsgUp, 0, 0), says: "12 UpAck, 12 State 1 #1, 12 State 2 #1, 12 State 3 #1"},
		{deed: hears(12, impl.MsgActive, 4, 0), says: "12 Bad #2"},
		{deed: hears(12, impl.MsgIdle, 9, 0), says: "12 Bad #2"},
		{deed: hears(12, impl.MsgIdle, 3, 0), says: "12 IdleAck 3"},
		{deed: hears(11, impl.MsgUp, 0, 0), says: "11 UpAck, 11 State 1 #1, 11 State 2 #1, 11 State 3 #1"},
		{deed: hears(12, impl.MsgActive, 1, 0), says: "12 ActiveAck 1, 11 State 1 #2, 12 State 1 #2", then: "1 active 12, 2 idle, 3 idle"},
		{deed: hears(12, impl.MsgActive, 1, 0), says: "12 ActiveAck 1"},
		{deed: hears(13, impl.MsgUp, 0, 0), says: "13 UpAck, 13 State 1 #2, 13 State 2 #1, 13 State 3 #1"},
		{deed: hears(13, impl.MsgActive, 3, 0), says: "13 ActiveAck 3, 11 State 3 #2, 12 State 3 #2, 13 State 3 #2", then: "1 active 12, 2 idle, 3 active 13"},
		{deed: hears(12, impl.MsgActive, 3, 0), says: "12 ActiveAck 3", then: "1 active 12, 2 idle, 3 active 12 13"},
		{deed: hears(11, impl.MsgActive, 2, 0), says: "11 ActiveAck 2, 11 State 2 #2, 12 State 2 #2, 13 State 2 #2", then: "1 active 12, 2 active 11, 3 active 12 13"},
		{deed: hears(12, impl.MsgActive, 2, 0), says: "12 ActiveAck 2", then: "1 active 12, 2 active 11 12, 3 active 12 13"},
		// One that takes a range from another one: no state turns.
		{deed: hears(11, impl.MsgActive, 1, 0), says: "11 ActiveAck 1, 12 State 1 #4", then: "1 active 11, 2 active 11 12, 3 active 12 13"},
		{deed: hears(13, impl.MsgActive, 1, 0), says: "13 ActiveAck 1, 11 State 1 #4", then: "1 active 13, 2 active 11 12, 3 active 12 13"},
		{deed: hears(12, impl.MsgIdle, 1, 0), says: "12 IdleAck 1"},
		{deed: hears(13, impl.MsgIdle, 1, 0), says: "13 IdleAck 1, 11 State 1 #3, 12 State 1 #3, 13 State 1 #3", then: "1 pending 5, 2 active 11 12, 3 active 12 13"},
		{deed: hears(13, impl.MsgIdle, 1, 0), says: "13 IdleAck 1"},
		{deed: ticks(), then: "1 pending 4, 2 active 11 12, 3 active 12 13"},
		{deed: hears(11, impl.MsgIdle, 2, 0), says: "11 IdleAck 2", then: "1 pending 4, 2 active 12, 3 active 12 13"},
		// Several settle at once: what was pending still is, with Left as it was.
		{deed: hears(12, impl.MsgDown, 0, 0), says: "12 DownAck, 11 State 2 #3, 13 State 2 #3", then: "1 pending 4, 2 pending 5, 3 active 13"},
		{deed: hears(12, impl.MsgDown, 0, 0), says: "12 DownAck"},
		{deed: goes(12)},
		{deed: goes(13), says: "11 State 3 #3", then: "1 pending 4, 2 pending 5, 3 pending 5"},
		{deed: ticks(), then: "1 pending 3, 2 pending 4, 3 pending 4"},
		{deed: hears(13, impl.MsgUp, 0, 0), says: "13 UpAck, 13 State 1 #3, 13 State 2 #3, 13 State 3 #3"},
		{deed: ticks(), then: "1 pending 2, 2 pending 3, 3 pending 3"},
		{deed: ticks(), then: "1 pending 1, 2 pending 2, 3 pending 2"},
		{deed: ticks(), says: "11 State 1 #1, 13 State 1 #1", then: "1 idle, 2 pending 1, 3 pending 1"},
		{deed: hears(13, impl.MsgActive, 2, 0), says: "13 ActiveAck 2, 11 State 2 #2, 13 State 2 #2", then: "1 idle, 2 active 13, 3 pending 1"},
		{deed: goes(11)},
		{deed: goes(13), then: "1 down, 2 pending 5, 3 pending 1"},
		{deed: ticks(), then: "1 down, 2 pending 4, 3 down"},
		{deed: hears(11, impl.MsgUp, 0, 0), says: "11 UpAck, 11 State 1 #1, 11 State 3 #1, 11 State 1 #1, 11 State 2 #3, 11 State 3 #1", then: "1 idle, 2 pending 4, 3 idle"},
		{deed: hears(11, impl.MsgActive, 2, 0), says: "11 ActiveAck 2, 11 State 2 #2", then: "1 idle, 2 active 11, 3 idle"},
		{deed: hears(11, impl.MsgActive, 1, 0), says: "11 ActiveAck 1, 11 State 1 #2", then: "1 active 11, 2 active 11, 3 idle"},
		{deed: hears(11, impl.MsgActive, 3, 0), says: "11 ActiveAck 3, 11 State 3 #2", then: "1 active 11, 2 active 11, 3 active 11"},
		// MsgUp of one that is active.
		{deed: hears(11, impl.MsgUp, 0, 0), says: "11 UpAck, 11 State 1 #3, 11 State 2 #3, 11 State 3 #3, 11 State 1 #3, 11 State 2 #3, 11 State 3 #3", then: "1 pending 5, 2 pending 5, 3 pending 5"},
	})
}

// P27: units that wait are said in order, each once, when a server comes; told by hand.
func TestSrvStoryOfUnits(t *testing.T) {
	keys := []impl.KeyRow{{Ctx: 1, Low: 0, High: 99, Mode: impl.KeyOne}, {Ctx: 2, Low: 100, High: 199, Mode: impl.KeyShare}, {Ctx: 3, Low: 200, High: 299, Mode: impl.KeyAll}}
	checkGateStory(t, openBook(keys, 11, 12, 13), []gateLine{
		{deed: gives(1, 5, 0), told: "2", then: "1 down, 2 down, 3 down"},
		{deed: gives(1, 300, 0), told: "1"},
		{deed: hears(11, impl.MsgUp, 0, 0), says: "11 UpAck, 11 State 1 #1, 11 State 2 #1, 11 State 3 #1, 11 State 1 #1, 11 State 2 #1, 11 State 3 #1", then: "1 idle, 2 idle, 3 idle"},
		{deed: gives(1, 199, 0), told: "2"},
		{deed: hears(11, impl.MsgActive, 1, 0), says: "11 ActiveAck 1, 11 State 1 #2", then: "1 active 11, 2 idle, 3 idle"},
		{deed: gives(1, 0, 9), says: "11 Data 1 #1", told: "0"},
		{deed: hears(11, impl.MsgActive, 2, 0), says: "11 ActiveAck 2, 11 State 2 #2", then: "1 active 11, 2 active 11, 3 idle"},
		{deed: hears(11, impl.MsgActive, 3, 0), says: "11 ActiveAck 3, 11 State 3 #2", then: "1 active 11, 2 active 11, 3 active 11"},
		{deed: hears(11, impl.MsgDown, 0, 0), says: "11 DownAck", then: "1 pending 5, 2 pending 5, 3 pending 5"},
		{deed: gives(2, 5, 3), told: "0", then: "1 pending 5 #2, 2 pending 5, 3 pending 5"},
		{deed: gives(3, 105, 3), told: "0", then: "1 pending 5 #2, 2 pending 5 #3, 3 pending 5"},
		{deed: gives(4, 205, 3), told: "0", then: "1 pending 5 #2, 2 pending 5 #3, 3 pending 5 #4"},
		{deed: gives(9, 6, 0), told: "0", then: "1 pending 5 #2 #9, 2 pending 5 #3, 3 pending 5 #4"},
		{deed: gives(5, 7, 0), told: "0", then: "1 pending 5 #2 #9 #5, 2 pending 5 #3, 3 pending 5 #4"},
		{deed: gives(5, 7, 0), told: "0", then: "1 pending 5 #2 #9 #5 #5, 2 pending 5 #3, 3 pending 5 #4"},
		{deed: gives(6, 8, 1), told: "0", then: "1 pending 5 #2 #9 #5 #5 #6, 2 pending 5 #3, 3 pending 5 #4"},
		{deed: gives(7, 9, 2), told: "0", then: "1 pending 5 #2 #9 #5 #5 #6 #7, 2 pending 5 #3, 3 pending 5 #4"},
		{deed: gives(8, 9, 2), told: "4"},
		{deed: gives(8, 999, 2), told: "1"},
		{deed: turns(impl.MsgOff, 9)},
		{deed: gives(8, 9, 2), told: "5"},
		{deed: turns(impl.MsgOff, 105)},
		{deed: gives(8, 105, 2), told: "5"},
		{deed: ticks(), then: "1 pending 4 #2 #9 #5 #5 #6 #7, 2 pending 4 #3, 3 pending 4 #4"},
		{deed: hears(13, impl.MsgUp, 0, 0), says: "13 UpAck, 13 Off #9, 13 Off #105, 13 State 1 #3, 13 State 2 #3, 13 State 3 #3"},
		{deed: hears(12, impl.MsgUp, 0, 0), says: "12 UpAck, 12 Off #9, 12 Off #105, 12 State 1 #3, 12 State 2 #3, 12 State 3 #3"},
		// What waits is said, though it is off by now.
		{deed: hears(12, impl.MsgActive, 1, 0), says: "12 ActiveAck 1, 12 State 1 #2, 13 State 1 #2, 12 Data 1 #2, 12 Data 1 #9, 12 Data 1 #5, 12 Data 1 #5, 12 Data 1 #6, 12 Data 1 #7", then: "1 active 12, 2 pending 4 #3, 3 pending 4 #4"},
		{deed: hears(13, impl.MsgActive, 3, 0), says: "13 ActiveAck 3, 12 State 3 #2, 13 State 3 #2, 13 Data 3 #4", then: "1 active 12, 2 pending 4 #3, 3 active 13"},
		{deed: hears(12, impl.MsgActive, 3, 0), says: "12 ActiveAck 3", then: "1 active 12, 2 pending 4 #3, 3 active 12 13"},
		{deed: gives(10, 299, 1), says: "12 Data 3 #10, 13 Data 3 #10", told: "0"},
		{deed: ticks(), then: "1 active 12, 2 pending 3 #3, 3 active 12 13"},
		{deed: ticks(), then: "1 active 12, 2 pending 2 #3, 3 active 12 13"},
		{deed: gives(11, 106, 1), told: "0", then: "1 active 12, 2 pending 2 #3 #11, 3 active 12 13"},
		{deed: ticks(), then: "1 active 12, 2 pending 1 #3 #11, 3 active 12 13"},
		{deed: gives(12, 106, 1), told: "0", then: "1 active 12, 2 pending 1 #3 #11 #12, 3 active 12 13"},
		{deed: ticks(), says: "12 State 2 #1, 13 State 2 #1", told: "#3 for 3 #11 for 3 #12 for 3", then: "1 active 12, 2 idle, 3 active 12 13"},
		{deed: gives(13, 106, 1), told: "2"},
		{deed: ticks()},
		// The range is taken: nothing waits for that.
		{deed: hears(13, impl.MsgActive, 1, 0), says: "13 ActiveAck 1, 12 State 1 #4", then: "1 active 13, 2 idle, 3 active 12 13"},
		{deed: gives(14, 3, 0), says: "13 Data 1 #14", told: "0"},
	})
}

// Several ranges whose ticks are over at once drop in order, each telling its state behind the others.
func TestSrvTickOfSeveralRanges(t *testing.T) {
	b := turnedBook(func(b *impl.SrvBook) {
		b.Servers = []impl.SrvServer{{Server: 11, Up: true, Active: []int{2}}, {Server: 12}, {Server: 13, Up: true}}
		b.Ranges[0] = impl.SrvRange{Ctx: 1, State: 3, Left: 1, Wait: []impl.SrvUnit{give(9, 3, 1), give(4, 5, 1)}}
		b.Ranges[2] = impl.SrvRange{Ctx: 4, State: 3, Left: 2, Wait: []impl.SrvUnit{give(6, 203, 1)}}
		b.Ranges[3].Left = 1
	})
	checkGateStory(t, b, []gateLine{
		{deed: ticks(), says: "11 State 1 #1, 13 State 1 #1, 11 State 7 #1, 13 State 7 #1", told: "#9 for 3 #4 for 3 #5 for 3 #8 for 3", then: "1 idle, 2 active 11, 4 pending 1 #6, 7 idle"},
		{deed: ticks(), says: "11 State 4 #1, 13 State 4 #1", told: "#6 for 3", then: "1 idle, 2 active 11, 4 idle, 7 idle"},
		{deed: ticks()},
	})
	b.Servers = []impl.SrvServer{{Server: 12}}
	b.Ranges[1] = impl.SrvRange{Ctx: 2}
	checkGateStory(t, impl.SrvBook{Keys: b.Keys, Servers: b.Servers, Ranges: b.Ranges}, []gateLine{
		{deed: ticks(), told: "#9 for 3 #4 for 3 #5 for 3 #8 for 3", then: "1 down, 2 down, 4 pending 1 #6, 7 down"},
		{deed: ticks(), told: "#6 for 3", then: "1 down, 2 down, 4 down, 7 down"},
	})
}

// P28: what is off, and jam, is told to all that are up, when it turns, and to one that comes up; told by hand.
func TestSrvStoryOfOffAndJam(t *testing.T) {
	b := openBook(keyOf(impl.KeyShare), 11, 12, 13)
	b = checkGateStory(t, b, []gateLine{
		{deed: turns(impl.MsgOff, 500)},
		{deed: turns(impl.MsgJam, 1)},
		{deed: hears(11, impl.MsgUp, 0, 0), says: "11 UpAck, 11 Off #500, 11 Jam #1, 11 State 3 #1, 11 State 3 #1", then: "3 idle"},
		{deed: hears(13, impl.MsgUp, 0, 0), says: "13 UpAck, 13 Off #500, 13 Jam #1, 13 State 3 #1"},
		{deed: turns(impl.MsgOff, 0), says: "11 Off #0, 13 Off #0"},
		{deed: turns(impl.MsgOff, 999), says: "11 Off #999, 13 Off #999"},
		{deed: turns(impl.MsgOff, 999)},
		{deed: turns(impl.MsgOff, 1000)},
		{deed: turns(impl.MsgOff, -1)},
		{deed: turns(impl.MsgOn, 1)},
		{deed: turns(impl.MsgOn, 1000)},
		{deed: turns(impl.MsgOn, -1)},
		{deed: turns(impl.MsgOff, 3), says: "11 Off #3, 13 Off #3"},
		{deed: turns(impl.MsgOff, 2), says: "11 Off #2, 13 Off #2"},
		{deed: turns(impl.MsgOff, 1), says: "11 Off #1, 13 Off #1"},
		{deed: turns(impl.MsgOff, 4)},
		{deed: turns(impl.MsgOff, 3)},
		{deed: turns(impl.MsgOn, 3), says: "11 On #3, 13 On #3"},
		{deed: turns(impl.MsgOn, 3)},
		{deed: turns(impl.MsgOff, 4), says: "11 Off #4, 13 Off #4"},
		{deed: turns(impl.MsgJam, 1)},
		{deed: turns(impl.MsgJam, 3), says: "11 Jam #3, 13 Jam #3"},
		{deed: turns(impl.MsgJam, 4)},
		{deed: turns(impl.MsgJam, -1)},
		{deed: hears(12, impl.MsgUp, 0, 0), says: "12 UpAck, 12 Off #0, 12 Off #1, 12 Off #2, 12 Off #4, 12 Off #500, 12 Off #999, 12 Jam #3, 12 State 3 #1"},
		{deed: hears(11, impl.MsgAsk, 0, 4), says: "11 Off #4"},
		{deed: hears(11, impl.MsgAsk, 0, 3), says: "11 On #3"},
		{deed: hears(11, impl.MsgAsk, 0, 1000000), says: "11 On #1000000"},
		{deed: goes(11)},
		{deed: hears(11, impl.MsgAsk, 0, 999), says: "11 Off #999"},
		{deed: hears(99, impl.MsgAsk, 0, 999)},
		{deed: turns(impl.MsgJam, 0), says: "12 Jam #0, 13 Jam #0"},
		{deed: hears(11, impl.MsgUp, 0, 0), says: "11 UpAck, 11 Off #0, 11 Off #1, 11 Off #2, 11 Off #4, 11 Off #500, 11 Off #999, 11 State 3 #1"},
	})
	if !slices.Equal(b.Off, []int{0, 1, 2, 4, 500, 999}) || b.Jam != 0 {
		t.Errorf("%v %d", b.Off, b.Jam)
	}
	for _, kind := range []int{-1, 0, 1, 2, 3, 4, 5, 6, 7, 8, 9, 10, 14, 15, 16, math.MinInt, math.MaxInt} {
		for _, num := range []int{0, 1, 2, 3, 7} {
			if got, says := impl.SrvTell(b, impl.MsgWord{Kind: kind, Num: num}); len(says) != 0 || !sameValue(got, b) {
				t.Errorf("kind %d, %d: %v", kind, num, says)
			}
		}
	}
}

// What SrvTell is told has a Kind and a Num; whatever else the message has is not told on.
func TestSrvTellTellsKindAndNumAlone(t *testing.T) {
	b, _ := impl.SrvHear(openBook(keyOf(impl.KeyAll), 11), 11, impl.MsgWord{Kind: impl.MsgUp})
	for _, kind := range []int{impl.MsgOff, impl.MsgJam} {
		_, says := impl.SrvTell(b, impl.MsgWord{Kind: kind, Ctx: 3, Num: 2, Dest: 4, Sls: 5, Body: []byte{6}})
		if want := []impl.SrvSay{{Server: 11, Word: impl.MsgWord{Kind: kind, Num: 2}}}; !sameValue(says, want) {
			t.Errorf("%v, want %v", says, want)
		}
	}
}

// P46: units of all choices, with one, two and three active servers.
func TestSrvGiveOfAllChoices(t *testing.T) {
	for mode := impl.KeyOne; mode <= impl.KeyAll; mode++ {
		for active := 1; active <= 3; active++ {
			if mode == impl.KeyOne && active > 1 {
				continue
			}
			names := []int{11, 500, 65535}[:active]
			b := openBook(keyOf(mode), 11, 500, 65535)
			for i := range b.Servers {
				b.Servers[i].Up = true
			}
			for i := range active {
				b.Servers[i].Active = []int{3}
			}
			b.Ranges[0].State = impl.SrvActive
			for sls := 0; sls <= impl.MsgMaxSls; sls++ {
				for _, dest := range []int{0, 50, 99} {
					u := impl.SrvUnit{Mark: 70 + sls, Dest: dest, Sls: sls, Body: counted(1 + sls%12)}
					w := impl.MsgWord{Kind: impl.MsgData, Ctx: 3, Num: 70 + sls, Dest: dest, Sls: sls, Body: counted(1 + sls%12)}
					want := []impl.SrvSay{{Server: names[sls%active], Word: w}}
					if mode == impl.KeyAll {
						want = nil
						for _, name := range names {
							want = append(want, impl.SrvSay{Server: name, Word: w})
						}
					}
					got, says, why := impl.SrvGive(b, u)
					if why != 0 || !sameValue(says, want) || !sameValue(got, b) {
						t.Errorf("mode %d, %d active, %v: %v %d, want %v", mode, active, u, says, why, want)
					}
				}
			}
		}
	}
}

// The reasons of SrvGive are looked for in the order in which they are listed.
func TestSrvGiveTellsTheFirstReason(t *testing.T) {
	b := busyBook()
	b.Off = []int{5, 150, 250, 399, 400}
	b.Ranges[3].Wait = slices.Repeat([]impl.SrvUnit{give(1, 300, 1)}, 6)
	idle := openBook(fourKeys(), 11)
	idle.Off = []int{5, 400}
	up, _ := impl.SrvHear(idle, 11, impl.MsgWord{Kind: impl.MsgUp})
	for _, c := range []struct {
		name string
		b    impl.SrvBook
		dest int
		want int
	}{
		{"no key, and off", b, 400, 1}, {"no key", b, 999, 1}, {"no key, and off, and nobody is there", idle, 400, 1},
		{"off, though it is active", b, 5, 5}, {"off, though it is active for all", b, 250, 5}, {"off, and it is full", b, 399, 5},
		{"off, and nobody is there", idle, 5, 5}, {"off, and it is idle", up, 5, 5},
		{"down", idle, 6, 2}, {"idle", up, 6, 2}, {"idle, the last one", up, 399, 2}, {"full", b, 398, 4}, {"it is said", b, 6, 0},
	} {
		got, says, why := impl.SrvGive(c.b, give(7, c.dest, 0))
		if why != c.want || (why == 0) != (len(says) != 0) || !sameValue(got, c.b) {
			t.Errorf("%s: %v %d", c.name, says, why)
		}
	}
	// A unit that is not ok is none of these.
	for _, bad := range badUnits() {
		for _, of := range []impl.SrvBook{b, idle, up} {
			if got, says, why := impl.SrvGive(of, bad); why != -1 || len(says) != 0 || !sameValue(got, of) {
				t.Errorf("%v: %v %d", bad, says, why)
			}
		}
	}
}

// One that is no server of the book, or a message that is not ok, turns nothing.
func TestSrvHearOfNobodyAndOfBadMessages(t *testing.T) {
	for name, b := range goodBooks() {
		known := func(server int) bool {
			return slices.ContainsFunc(b.Servers, func(s impl.SrvServer) bool { return s.Server == server })
		}
		for _, server := range append([]int{10, 14, 11 + 65536, 11 - 65536}, wide...) {
			if known(server) {
				continue
			}
			for kind := 1; kind <= 15; kind++ {
				if got, says := impl.SrvHear(b, server, msgOf(kind)); len(says) != 0 || !sameValue(got, b) {
					t.Errorf("%s: %d, kind %d: %v", name, server, kind, says)
				}
			}
			if got, says := impl.SrvGone(b, server); len(says) != 0 || !sameValue(got, b) {
				t.Errorf("%s: %d is gone: %v", name, server, says)
			}
		}
	}
	for _, w := range badMsgs() {
		for _, server := range []int{11, 13, 99} {
			if got, says := impl.SrvHear(busyBook(), server, w); len(says) != 0 || !sameValue(got, busyBook()) {
				t.Errorf("%v: %v", w, says)
			}
		}
	}
}

// Whatever a server does not say to a gateway is answered with MsgBad and 3, whether it is up or not.
func TestSrvHearOfOtherKinds(t *testing.T) {
	for _, kind := range []int{impl.MsgUpAck, impl.MsgDownAck, impl.MsgActiveAck, impl.MsgIdleAck, impl.MsgState, impl.MsgData, impl.MsgOff, impl.MsgOn, impl.MsgJam, impl.MsgBad} {
		for _, server := range []int{11, 12, 13} {
			got, says := impl.SrvHear(busyBook(), server, msgOf(kind))
			if want := []impl.SrvSay{{Server: server, Word: impl.MsgWord{Kind: impl.MsgBad, Num: 3}}}; !sameValue(says, want) || !sameValue(got, busyBook()) {
				t.Errorf("kind %d: %v", kind, says)
			}
		}
	}
}
