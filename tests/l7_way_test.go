package tests

import (
	"math"
	"slices"
	"testing"

	"loop.example/trunk/impl"
)

// trait is a number of a way, and what it may be.
type trait struct {
	name  string
	in    reach
	place func(w *impl.PthWay) *int
}

var traits = []trait{
	{"Addr", short, func(w *impl.PthWay) *int { return &w.Addr }},
	{"Errors", reach{0, 3}, func(w *impl.PthWay) *int { return &w.Errors }},
	{"Srtt", reach{0, 128}, func(w *impl.PthWay) *int { return &w.Srtt }},
	{"Var", reach{0, 64}, func(w *impl.PthWay) *int { return &w.Var }},
	{"Rto", reach{2, 16}, func(w *impl.PthWay) *int { return &w.Rto }},
}

func slowWayOk(w impl.PthWay) bool {
	for _, tr := range traits {
		if !tr.in.has(*tr.place(&w)) {
			return false
		}
	}
	return w.On == (w.Errors == 0 || w.Errors == 1 || w.Errors == 2)
}

// edgeWays have each number at its bounds, and between them.
func edgeWays() []impl.PthWay {
	var out []impl.PthWay
	for _, addr := range []int{0, 6, 65535} {
		for errors := range 4 {
			for _, srtt := range []int{0, 1, 7, 8, 9, 64, 127, 128} {
				for _, varies := range []int{0, 1, 3, 4, 5, 63, 64} {
					for _, rto := range []int{2, 3, 8, 9, 15, 16} {
						out = append(out, impl.PthWay{Addr: addr, On: errors < 3, Errors: errors, Srtt: srtt, Var: varies, Rto: rto})
					}
				}
			}
		}
	}
	return out
}

// badWays are not ok, each in one way.
func badWays() []impl.PthWay {
	good := impl.PthWay{Addr: 6, On: true, Errors: 1, Srtt: 30, Var: 8, Rto: 11}
	off := impl.PthWay{Addr: 6, Errors: 3, Srtt: 30, Var: 8, Rto: 11}
	out := []impl.PthWay{{}, {On: true}}
	for _, tr := range traits {
		for _, n := range append([]int{tr.in.from - 1, tr.in.to + 1}, wide...) {
			if !tr.in.has(n) {
				for _, w := range []impl.PthWay{good, off} {
					*tr.place(&w) = n
					out = append(out, w)
				}
			}
		}
	}
	for errors := range 4 {
		w := good
		w.Errors, w.On = errors, errors == 3
		out = append(out, w)
	}
	return out
}

func TestPthOkOfEachNumber(t *testing.T) {
	for _, w := range edgeWays() {
		if !impl.PthOk(w) {
			t.Fatalf("%v is not ok", w)
		}
	}
	base := []impl.PthWay{
		{Addr: 6, On: true, Rto: 3}, {Addr: 65535, On: true, Errors: 2, Srtt: 128, Var: 64, Rto: 16}, {Addr: 1, Errors: 3, Srtt: 9, Var: 4, Rto: 2},
	}
	for _, good := range base {
		for _, tr := range traits {
			for _, n := range append([]int{tr.in.from - 1, tr.in.from, tr.in.to, tr.in.to + 1}, wide...) {
				for _, on := range []bool{false, true} {
					w := good
					*tr.place(&w), w.On = n, on
					if impl.PthOk(w) != slowWayOk(w) {
						t.Errorf("%v: %s is %d, and it is ok: %v", w, tr.name, n, impl.PthOk(w))
					}
				}
			}
		}
	}
}

func TestPthRefusesWaysThatAreNotOk(t *testing.T) {
	for _, w := range badWays() {
		if slowWayOk(w) || impl.PthOk(w) {
			t.Errorf("%v is ok", w)
		}
		for _, ticks := range []int{-1, 0, 3, 17} {
			if got := impl.PthHeard(w, ticks); got != (impl.PthWay{}) {
				t.Errorf("%v was heard: %v", w, got)
			}
		}
		if got := impl.PthLost(w); got != (impl.PthWay{}) {
			t.Errorf("%v was lost: %v", w, got)
		}
		good := impl.PthOpen(1)
		for _, ways := range [][]impl.PthWay{{w}, {w, good}, {good, w}, {w, w}} {
			for primary := range ways {
				if got := impl.PthPick(ways, primary); got != -1 {
					t.Errorf("%v, primary %d: %d", ways, primary, got)
				}
			}
		}
	}
}

func TestPthOpenOfEachAddress(t *testing.T) {
	for _, addr := range append([]int{6, 22, 65535, 65536, -1}, wide...) {
		want := impl.PthWay{}
		if addr >= 0 && addr <= 65535 {
			want = impl.PthWay{Addr: addr, On: true, Rto: 3}
		}
		if got := impl.PthOpen(addr); got != want || impl.PthOk(got) != short.has(addr) {
			t.Errorf("%d: %v, want %v", addr, got, want)
		}
	}
}

// Told by hand from the document.
func TestPthHeardOfKnownWays(t *testing.T) {
	list := []struct {
		srtt, varies, ticks  int
		toSrtt, toVar, toRto int
		errors, rto          int
	}{
		// The first answer tells all.
		{0, 0, 4, 32, 8, 12, 0, 3},
		{0, 0, 1, 8, 2, 3, 0, 3},
		{0, 0, 0, 0, 0, 2, 0, 3},
		{0, 0, 5, 40, 10, 15, 1, 16},
		{0, 0, 6, 48, 12, 16, 0, 3},
		{0, 0, 16, 128, 32, 16, 0, 3},
		{0, 64, 2, 16, 4, 6, 2, 9},
		{0, 64, 0, 0, 0, 2, 3, 16},
		// Those behind it.
		{32, 8, 2, 30, 8, 11, 0, 12},
		{30, 8, 2, 29, 7, 10, 0, 11},
		{32, 8, 4, 32, 6, 10, 3, 12},
		{32, 8, 6, 34, 8, 12, 0, 12},
		{1, 0, 0, 1, 0, 2, 0, 3},
		{7, 3, 0, 7, 3, 3, 0, 3},
		{7, 4, 1, 8, 4, 5, 0, 3},
		{8, 1, 1, 8, 1, 2, 0, 3},
		{9, 5, 16, 24, 19, 16, 0, 3},
		{128, 64, 16, 128, 48, 16, 0, 16},
		{128, 64, 0, 112, 64, 16, 2, 16},
		{128, 63, 0, 112, 64, 16, 2, 16},
		{127, 61, 15, 127, 46, 16, 2, 16},
		{120, 0, 16, 121, 1, 16, 0, 2},
		{128, 0, 16, 128, 0, 16, 0, 2},
		{127, 0, 16, 128, 1, 16, 0, 2},
		// Ticks below 0, and above PthMaxRto.
		{32, 8, -1, 28, 10, 13, 0, 12},
		{32, 8, 0, 28, 10, 13, 0, 12},
		{32, 8, math.MinInt, 28, 10, 13, 0, 12},
		{32, 8, 16, 44, 18, 16, 0, 12},
		{32, 8, 17, 44, 18, 16, 0, 12},
		{32, 8, math.MaxInt, 44, 18, 16, 0, 12},
		{0, 0, -1, 0, 0, 2, 0, 3},
		{0, 0, 17, 128, 32, 16, 0, 3},
	}
	for _, l := range list {
		w := impl.PthWay{Addr: 6, On: l.errors < 3, Errors: l.errors, Srtt: l.srtt, Var: l.varies, Rto: l.rto}
		want := impl.PthWay{Addr: 6, On: true, Srtt: l.toSrtt, Var: l.toVar, Rto: l.toRto}
		if got := impl.PthHeard(w, l.ticks); got != want {
			t.Errorf("%v behind %d ticks: %v, want %v", w, l.ticks, got, want)
		}
	}
}

// slowHeard counts by ones.
func slowHeard(w impl.PthWay, ticks int) impl.PthWay {
	took := 0
	for took < ticks && took < 16 {
		took++
	}
	part := func(n int, of int) int {
		parts := 0
		for n >= of {
			n, parts = n-of, parts+1
		}
		return parts
	}
	w.Errors, w.On = 0, true
	if w.Srtt == 0 {
		w.Var = took + took
		w.Srtt = 4 * w.Var
	} else {
		apart := part(w.Srtt, 8) - took
		if apart < 0 {
			apart = -apart
		}
		w.Var += apart - part(w.Var, 4)
		if w.Var > 64 {
			w.Var = 64
		}
		w.Srtt += took - part(w.Srtt, 8)
		if w.Srtt > 128 {
			w.Srtt = 128
		}
	}
	w.Rto = part(w.Srtt, 8) + w.Var
	if w.Rto < 2 {
		w.Rto = 2
	}
	if w.Rto > 16 {
		w.Rto = 16
	}
	return w
}

func TestPthHeardOfAllWays(t *testing.T) {
	for srtt := range 129 {
		for varies := range 65 {
			for ticks := -1; ticks <= 17; ticks++ {
				errors := (srtt + varies + ticks + 1) % 4
				w := impl.PthWay{Addr: srtt, On: errors < 3, Errors: errors, Srtt: srtt, Var: varies, Rto: 2 + (srtt+ticks+1)%15}
				got := impl.PthHeard(w, ticks)
				if want := slowHeard(w, ticks); got != want || !impl.PthOk(got) {
					t.Fatalf("%v behind %d ticks: %v, want %v", w, ticks, got, want)
				}
			}
		}
	}
}

func TestPthLostOfAllWays(t *testing.T) {
	rtos := map[int]int{2: 4, 3: 6, 8: 16, 9: 16, 15: 16, 16: 16}
	for _, w := range edgeWays() {
		want := w
		want.Errors = []int{1, 2, 3, 3}[w.Errors]
		want.On = w.Errors < 2
		want.Rto = rtos[w.Rto]
		if got := impl.PthLost(w); got != want || !impl.PthOk(got) {
			t.Fatalf("%v: %v, want %v", w, got, want)
		}
	}
}

// P24: so many losses, one behind the other, and no fewer.
func TestPthLostUntilItIsOff(t *testing.T) {
	for _, start := range edgeWays() {
		w := impl.PthHeard(start, 3)
		for n := 1; n <= 5; n++ {
			w = impl.PthLost(w)
			if w.On != (n <= impl.PthMaxErrors) || w.Errors != min(n, impl.PthMaxErrors+1) {
				t.Fatalf("%v, lost %d times: %v", start, n, w)
			}
			back := impl.PthHeard(w, n)
			if !back.On || back.Errors != 0 {
				t.Fatalf("%v was heard: %v", w, back)
			}
			// What was lost ahead of an answer counts no more.
			back = impl.PthLost(impl.PthLost(back))
			if !back.On || impl.PthLost(back).On {
				t.Fatalf("%v was lost twice: %v", w, back)
			}
		}
	}
}

func TestPthPickOfKnownWays(t *testing.T) {
	on, off := impl.PthOpen(6), impl.PthLost(impl.PthLost(impl.PthLost(impl.PthOpen(7))))
	last := impl.PthLost(impl.PthLost(impl.PthOpen(8)))
	list := []struct {
		ways    []impl.PthWay
		primary int
		want    int
	}{
		{nil, 0, -1},
		{nil, -1, -1},
		{[]impl.PthWay{on}, 0, 0},
		{[]impl.PthWay{off}, 0, 0},
		{[]impl.PthWay{on}, 1, -1},
		{[]impl.PthWay{on}, -1, -1},
		{[]impl.PthWay{on, on}, 0, 0},
		{[]impl.PthWay{on, on}, 1, 1},
		{[]impl.PthWay{on, off}, 0, 0},
		{[]impl.PthWay{on, off}, 1, 0},
		{[]impl.PthWay{off, on}, 0, 1},
		{[]impl.PthWay{off, on}, 1, 1},
		{[]impl.PthWay{off, off}, 0, 0},
		{[]impl.PthWay{off, off}, 1, 1},
		{[]impl.PthWay{last, on}, 0, 0},
		{[]impl.PthWay{off, last}, 0, 1},
		{[]impl.PthWay{on, on}, 2, -1},
		{[]impl.PthWay{off, off}, 2, -1},
		{[]impl.PthWay{off, off}, -1, -1},
		{[]impl.PthWay{on, on, on}, 0, -1},
		{[]impl.PthWay{off, off, on}, 2, -1},
		{[]impl.PthWay{on, on}, math.MaxInt, -1},
		{[]impl.PthWay{on, on}, math.MinInt, -1},
	}
	for _, l := range list {
		if got := impl.PthPick(l.ways, l.primary); got != l.want {
			t.Errorf("%v, primary %d: %d, want %d", l.ways, l.primary, got, l.want)
		}
	}
}

// P24: one that is on is told, if any is.
func TestPthPickTellsOneThatIsOn(t *testing.T) {
	all := edgeWays()
	for i, a := range all {
		b := all[(7*i+3)%len(all)]
		ways := roomy([]impl.PthWay{a, b})
		for primary := range 2 {
			var got int
			checkMemory(t, "PthPick", func() []any {
				got = impl.PthPick(ways, primary)
				return nil
			}, ways)
			if got < 0 || got > 1 {
				t.Fatalf("%v: %d", ways, got)
			}
			if any := slices.ContainsFunc(ways, func(w impl.PthWay) bool { return w.On }); ways[got].On != any {
				t.Fatalf("%v, primary %d: %d", ways, primary, got)
			}
			if (ways[primary].On || !ways[1-primary].On) && got != primary {
				t.Fatalf("%v, primary %d: %d", ways, primary, got)
			}
		}
	}
}
