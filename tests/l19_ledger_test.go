package tests

import (
	"math"
	"slices"
	"testing"

	"loop.example/trunk/impl"
)

// slowClass is where a unit of an ok world is, as the document tells it.
func slowClass(w impl.TrunkWorld, mark int) int {
	if mark < 1 || mark > len(w.Given) {
		return 0
	}
	for _, got := range w.Got {
		if got.Mark == mark {
			return 1
		}
	}
	queued, flies := false, false
	for _, g := range w.Gates {
		for _, r := range g.Book.Ranges {
			for _, u := range r.Wait {
				if u.Mark == mark {
					return 2
				}
			}
		}
		for _, e := range g.Ends {
			for _, u := range e.Out.Queue {
				queued = queued || u.Mark == mark
			}
			for _, s := range e.Out.Flight {
				flies = flies || s.Mark == mark
			}
		}
	}
	if queued {
		return 3
	}
	if flies {
		return 4
	}
	class := 0
	for _, d := range w.Drops {
		if d.Mark == mark {
			class = 10 + d.Why
		}
	}
	return class
}

// slowSafe says what TrunkSafe does of an ok world, one pair after the other.
func slowSafe(w impl.TrunkWorld) bool {
	for at := range w.Given {
		if slowClass(w, at+1) == 0 {
			return false
		}
	}
	keys := w.Gates[0].Book.Keys
	for i, b := range w.Got {
		if b.Mark < 1 || b.Mark > len(w.Given) || w.Given[b.Mark-1].Gate != b.Gate || w.Given[b.Mark-1].Unit.Sls != b.Sls {
			return false
		}
		of := slowMatch(keys, w.Given[b.Mark-1].Unit.Dest)
		for _, a := range w.Got[:i] {
			if a.Mark == b.Mark && (of < 0 || keys[of].Mode != 3 || a.Host == b.Host) {
				return false
			}
			one := a.Host == b.Host && a.Life == b.Life && a.Gate == b.Gate && a.Sls == b.Sls
			if one && a.Mark > b.Mark && of == slowMatch(keys, w.Given[a.Mark-1].Unit.Dest) {
				return false
			}
		}
	}
	return true
}

// checkLedger holds the ledger of an ok world against the slow reading.
func checkLedger(t *testing.T, w impl.TrunkWorld) []int {
	t.Helper()
	var classes []int
	for mark := range len(w.Given) + 2 {
		class := impl.TrunkClass(w, mark)
		if class != slowClass(w, mark) {
			t.Fatalf("%v\n%d is %d, want %d", w, mark, class, slowClass(w, mark))
		}
		if mark >= 1 && mark <= len(w.Given) {
			classes = append(classes, class)
		}
	}
	if got := impl.TrunkSafe(w); got != slowSafe(w) {
		t.Fatalf("%v\nis safe: %v", w, got)
	}
	return classes
}

func TestTrunkClassConstants(t *testing.T) {
	got := []int{impl.ClassNone, impl.ClassGot, impl.ClassWaits, impl.ClassQueued, impl.ClassFlies, impl.ClassDropped}
	if want := []int{0, 1, 2, 3, 4, 10}; !slices.Equal(got, want) {
		t.Errorf("%v, want %v", got, want)
	}
}

// A unit of each class, told by hand.
func TestTrunkClassOfEach(t *testing.T) {
	keys := []impl.KeyRow{{Ctx: 2, Low: 500, High: 509, Mode: impl.KeyOne}, {Ctx: 3, Low: 600, High: 609, Mode: impl.KeyOne}, {Ctx: 4, Low: 700, High: 709, Mode: impl.KeyOne}}
	w := servedWorld(keys, []int{1}, []impl.TrunkWish{{Name: 11, Wish: []int{2}}, {Name: 12, Wish: []int{3}}})
	w = checkStep(t, w, evGive(0, 500, 1), evBring(0), evGive(0, 510, 1), evGive(0, 700, 1), evTell(0, impl.MsgOff, 501), evGive(0, 501, 1))
	// 5 and 6 fly, 7 waits for the line.
	w.Air = nil
	w = checkStep(t, w, evGive(0, 500, 1), evGive(0, 500, 1), evGive(0, 500, 1))
	w = checkStep(t, w, evClose(0, 1, true))
	for range 7 {
		w = checkStep(t, w, evGive(0, 600, 1))
	}
	if got := checkLedger(t, w); !slices.Equal(got, []int{1, 11, 12, 15, 4, 3, 3, 2, 2, 2, 2, 2, 2, 14}) {
		t.Fatalf("%v", got)
	}
	for range 5 {
		w = checkStep(t, w, evTick(0))
	}
	if got := checkLedger(t, w); !slices.Equal(got, []int{1, 11, 12, 15, 4, 3, 3, 13, 13, 13, 13, 13, 13, 14}) {
		t.Fatalf("%v", got)
	}
	// What 11 was told of the range meanwhile, twice, takes room as well.
	for range 4 {
		w = checkStep(t, w, evGive(0, 500, 1))
	}
	if got := checkLedger(t, w); !slices.Equal(got[14:], []int{3, 3, 17, 17}) {
		t.Fatalf("%v", got)
	}
	w = checkStep(t, w, evClose(0, 0, true))
	if got := checkLedger(t, w); !slices.Equal(got, []int{1, 11, 12, 15, 16, 2, 2, 13, 13, 13, 13, 13, 13, 14, 2, 2, 17, 17}) {
		t.Fatalf("%v", got)
	}
	w = checkStep(t, w, evFall(0))
	if got := checkLedger(t, w); !slices.Equal(got, []int{1, 11, 12, 15, 16, 18, 18, 13, 13, 13, 13, 13, 13, 14, 18, 18, 17, 17}) {
		t.Fatalf("%v", got)
	}
	for _, mark := range []int{0, -1, 19, 25, math.MinInt, math.MaxInt} {
		if class := impl.TrunkClass(w, mark); class != impl.ClassNone {
			t.Errorf("%d is %d", mark, class)
		}
	}
}

// Of several classes the first one counts, and of several drops the last one.
func TestTrunkClassOfSeveral(t *testing.T) {
	w := oneOf(impl.KeyAll, 2)
	for range 4 {
		w = checkStep(t, w, evGive(0, 500, 1))
	}
	if got := checkLedger(t, w); !slices.Equal(got, []int{4, 4, 3, 3}) {
		t.Fatalf("%v", got)
	}
	// The first end loses what it had; the other one still has it.
	w = checkStep(t, w, evClose(0, 0, true))
	if got := checkLedger(t, w); !slices.Equal(got, []int{4, 4, 3, 3}) || len(w.Drops) != 4 {
		t.Errorf("%v", got)
	}
	w.Drops = append(w.Drops, impl.SrvDrop{Mark: 2, Why: impl.SrvFull}, impl.SrvDrop{Mark: 1, Why: impl.SrvOff})
	if got := checkLedger(t, w); !slices.Equal(got, []int{4, 4, 3, 3}) {
		t.Errorf("%v", got)
	}
	fell := checkStep(t, w, evFall(0))
	if got := checkLedger(t, fell); !slices.Equal(got, []int{18, 18, 18, 18}) || len(fell.Drops) != 10 {
		t.Errorf("%v", got)
	}
	fell.Drops = append(fell.Drops, impl.SrvDrop{Mark: 2, Why: impl.SrvFull}, impl.SrvDrop{Mark: 1, Why: impl.SrvOff})
	if got := checkLedger(t, fell); !slices.Equal(got, []int{15, 14, 18, 18}) {
		t.Errorf("%v", got)
	}
	w.Got = append(w.Got, impl.TrunkGot{Host: 11, Gate: 1, Mark: 3, Sls: 1}, impl.TrunkGot{Host: 11, Gate: 1, Mark: 2, Sls: 1})
	if got := checkLedger(t, w); !slices.Equal(got, []int{4, 1, 1, 3}) {
		t.Errorf("%v", got)
	}
	// One that waits and flies: it waits; one that waits at one end and flies at another one: it waits for the line.
	one := checkStep(t, oneOf(impl.KeyOne, 1), evGive(0, 500, 1), evGive(0, 500, 1), evGive(0, 500, 1), evClose(0, 0, true))
	if got := checkLedger(t, one); !slices.Equal(got, []int{16, 16, 2}) {
		t.Errorf("%v", got)
	}
	one.Gates[0].Book.Ranges[0].Wait[0].Mark = 1
	if got := checkLedger(t, one); !slices.Equal(got, []int{2, 16, 0}) || impl.TrunkSafe(one) {
		t.Errorf("%v", got)
	}
	both := checkStep(t, oneOf(impl.KeyAll, 2), evGive(0, 500, 1), evGive(0, 500, 1), evGive(0, 500, 1))
	both.Gates[0].Ends[1].Out.Queue[0].Mark = 1
	if got := checkLedger(t, both); !slices.Equal(got, []int{3, 4, 3}) {
		t.Errorf("%v", got)
	}
}

// A unit at a server's end is none of a gateway's.
func TestTrunkClassOfServersEnds(t *testing.T) {
	w := checkStep(t, oneOf(impl.KeyOne, 1), evGive(0, 999, 1))
	w = checkStep(t, w, evWant(1, 2, false))
	w.Hosts[0].Ends[0].Out.Flight[0].Mark = 1
	w.Hosts[0].Ends[0].Out.Queue = []impl.DatUnit{unitOf(1, 0, 3, false)}
	if got := checkLedger(t, w); !slices.Equal(got, []int{11}) {
		t.Errorf("%v", got)
	}
	w.Drops = nil
	if got := checkLedger(t, w); !slices.Equal(got, []int{0}) || impl.TrunkSafe(w) {
		t.Errorf("%v", got)
	}
}

// gotWorld is one to which six units were given, and which servers got some of: 1 to 3 of a range that is KeyAll, 4 of one that is KeyShare, 5 of one that is KeyOne, 6 of none.
func gotWorld(got ...impl.TrunkGot) impl.TrunkWorld {
	w := openWorld([]impl.KeyRow{{Ctx: 2, Low: 500, High: 509, Mode: impl.KeyAll}, {Ctx: 3, Low: 600, High: 609, Mode: impl.KeyShare}, {Ctx: 4, Low: 700, High: 709, Mode: impl.KeyOne}}, []int{1, 5}, []impl.TrunkWish{{Name: 11}, {Name: 12}})
	for at, dest := range []int{500, 509, 500, 600, 700, 999, 605, 998} {
		w.Given = append(w.Given, impl.TrunkGiven{Gate: 1, Unit: give(at+1, dest, 3)})
		w.Drops = append(w.Drops, impl.SrvDrop{Mark: at + 1, Why: impl.SrvEnded})
	}
	w.Given[7].Gate = 5
	w.Got = got
	return w
}

func got(host int, life int, gate int, mark int, sls int) impl.TrunkGot {
	return impl.TrunkGot{Host: host, Life: life, Gate: gate, Mark: mark, Sls: sls}
}

func TestTrunkSafe(t *testing.T) {
	for name, c := range map[string]struct {
		safe bool
		got  []impl.TrunkGot
	}{
		"nothing":                      {true, nil},
		"in order":                     {true, []impl.TrunkGot{got(11, 0, 1, 1, 3), got(11, 0, 1, 2, 3), got(11, 0, 1, 3, 3)}},
		"some of them":                 {true, []impl.TrunkGot{got(11, 0, 1, 1, 3), got(11, 0, 1, 3, 3)}},
		"out of order":                 {false, []impl.TrunkGot{got(11, 0, 1, 2, 3), got(11, 0, 1, 1, 3)}},
		"out of order, far apart":      {false, []impl.TrunkGot{got(11, 0, 1, 3, 3), got(12, 0, 1, 1, 3), got(11, 0, 1, 4, 3), got(11, 0, 1, 2, 3)}},
		"by another server":            {true, []impl.TrunkGot{got(11, 0, 1, 2, 3), got(12, 0, 1, 1, 3)}},
		"in another life":              {true, []impl.TrunkGot{got(11, 0, 1, 2, 3), got(11, 1, 1, 1, 3)}},
		"of another range":             {true, []impl.TrunkGot{got(11, 0, 1, 4, 3), got(11, 0, 1, 1, 3)}},
		"of no range, and of one":      {true, []impl.TrunkGot{got(11, 0, 1, 6, 3), got(11, 0, 1, 5, 3)}},
		"all by both":                  {true, []impl.TrunkGot{got(11, 0, 1, 1, 3), got(12, 0, 1, 1, 3), got(12, 0, 1, 2, 3), got(11, 0, 1, 2, 3)}},
		"twice by one":                 {false, []impl.TrunkGot{got(11, 0, 1, 1, 3), got(11, 0, 1, 1, 3)}},
		"twice by one, in other lives": {false, []impl.TrunkGot{got(11, 0, 1, 1, 3), got(11, 1, 1, 1, 3)}},
		"twice in turn":                {false, []impl.TrunkGot{got(11, 0, 1, 4, 3), got(12, 0, 1, 4, 3)}},
		"twice by two":                 {false, []impl.TrunkGot{got(11, 0, 1, 5, 3), got(12, 0, 1, 5, 3)}},
		"twice of no range":            {false, []impl.TrunkGot{got(11, 0, 1, 6, 3), got(12, 0, 1, 6, 3)}},
		"never given":                  {false, []impl.TrunkGot{got(11, 0, 1, 9, 3)}},
		"given under 0":                {false, []impl.TrunkGot{got(11, 0, 1, 0, 3)}},
		"given below 0":                {false, []impl.TrunkGot{got(11, 0, 1, -1, 3)}},
		"given far off":                {false, []impl.TrunkGot{got(11, 0, 1, math.MaxInt, 3)}},
		"from another gateway":         {false, []impl.TrunkGot{got(11, 0, 5, 1, 3)}},
		"from its other gateway":       {true, []impl.TrunkGot{got(11, 0, 5, 8, 3), got(11, 0, 1, 6, 3)}},
		"from the gateway of others":   {false, []impl.TrunkGot{got(11, 0, 1, 8, 3)}},
		"with another choice":          {false, []impl.TrunkGot{got(11, 0, 1, 1, 4)}},
		"by nobody":                    {true, []impl.TrunkGot{got(-7, 5, 1, 1, 3), got(99, 5, 1, 1, 3)}},
	} {
		w := gotWorld(c.got...)
		checkLedger(t, w)
		if impl.TrunkSafe(w) != c.safe {
			t.Errorf("%s: safe is %v", name, !c.safe)
		}
	}
	// Another choice, or both of none.
	w := gotWorld(got(11, 0, 1, 2, 3), got(11, 0, 1, 1, 4))
	w.Given[0].Unit.Sls = 4
	checkLedger(t, w)
	if !impl.TrunkSafe(w) {
		t.Error("another choice")
	}
	w = gotWorld(got(11, 0, 1, 8, 3), got(11, 0, 1, 6, 3))
	w.Given[7].Gate = 1
	checkLedger(t, w)
	if impl.TrunkSafe(w) {
		t.Error("both of none")
	}
	// One that is nowhere.
	for at := range 8 {
		w := gotWorld(got(12, 0, 1, 4, 3))
		w.Drops[at].Mark = 77
		checkLedger(t, w)
		if impl.TrunkSafe(w) != (at == 3) {
			t.Errorf("%d is nowhere", at+1)
		}
	}
}

// The keys that count are those of the first gateway, and nobody need be up.
func TestTrunkSafeOfGoodWorlds(t *testing.T) {
	for name, w := range goodWorlds() {
		checkLedger(t, w)
		if name == "busy" && !impl.TrunkSafe(w) {
			t.Error(name)
		}
	}
}

func TestTrunkLedgerOfWorldsThatAreNotOk(t *testing.T) {
	for name, w := range badWorlds() {
		if impl.TrunkSafe(w) {
			t.Errorf("%s is safe", name)
		}
		for mark := -1; mark <= 26; mark++ {
			if class := impl.TrunkClass(w, mark); class != impl.ClassNone {
				t.Errorf("%s: %d is %d", name, mark, class)
			}
		}
	}
}

func TestTrunkLedgerMemory(t *testing.T) {
	for name, plain := range goodWorlds() {
		w := roomy(plain)
		checkMemory(t, name, func() []any {
			impl.TrunkSafe(w)
			for mark := range 26 {
				impl.TrunkClass(w, mark)
			}
			return nil
		}, w)
	}
}
