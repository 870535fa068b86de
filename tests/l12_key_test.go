package tests

import (
	"math"
	"math/big"
	"math/rand"
	"slices"
	"testing"

	"loop.example/trunk/impl"
)

// slowKeyOk counts how many keys have each destination.
func slowKeyOk(list []impl.KeyRow) bool {
	if len(list) > 4 {
		return false
	}
	var owners [1000]int
	last := 0
	for _, row := range list {
		if row.Ctx <= last || row.Ctx > 9 || row.Mode < 1 || row.Mode > 3 {
			return false
		}
		last = row.Ctx
		if row.Low < 0 || row.High > 999 || row.Low > row.High {
			return false
		}
		for dest := row.Low; dest <= row.High; dest++ {
			owners[dest]++
		}
	}
	return slices.Max(owners[:]) <= 1
}

// slowMatch looks at all keys; the last one that has it is told, so that two would show.
func slowMatch(list []impl.KeyRow, dest int) int {
	at := -1
	for i, row := range list {
		if row.Low <= dest && dest <= row.High {
			at = i
		}
	}
	return at
}

// slowTurn is told by numbers that do not wrap.
func slowTurn(sls int, n int) int {
	if n < 1 {
		return 0
	}
	// Mod is never below 0.
	return int(new(big.Int).Mod(big.NewInt(int64(sls)), big.NewInt(int64(n))).Int64())
}

// goodKeys are keys that are ok, of none to KeyMaxRows ranges.
func goodKeys() [][]impl.KeyRow {
	return [][]impl.KeyRow{
		nil,
		{},
		{{Ctx: 1, Low: 0, High: 0, Mode: impl.KeyOne}},
		{{Ctx: 9, Low: 999, High: 999, Mode: impl.KeyShare}},
		{{Ctx: 5, Low: 0, High: 999, Mode: impl.KeyAll}},
		{{Ctx: 5, Low: 17, High: 17, Mode: impl.KeyAll}},
		{{Ctx: 1, High: 99, Mode: impl.KeyOne}, {Ctx: 4, Low: 200, High: 999, Mode: impl.KeyAll}},
		// They touch, either one first.
		{{Ctx: 1, Low: 0, High: 499, Mode: impl.KeyOne}, {Ctx: 2, Low: 500, High: 999, Mode: impl.KeyOne}},
		{{Ctx: 1, Low: 500, High: 999, Mode: impl.KeyOne}, {Ctx: 9, Low: 0, High: 499, Mode: impl.KeyShare}},
		{{Ctx: 3, Low: 11, High: 11, Mode: impl.KeyOne}, {Ctx: 4, Low: 12, High: 12, Mode: impl.KeyShare}, {Ctx: 5, Low: 10, High: 10, Mode: impl.KeyAll}},
		{{Ctx: 1, Low: 300, High: 399, Mode: 3}, {Ctx: 2, Low: 0, High: 99, Mode: 2}, {Ctx: 3, Low: 900, High: 999, Mode: 1}, {Ctx: 4, Low: 100, High: 299, Mode: 3}},
		{{Ctx: 6, Low: 0, High: 249, Mode: 1}, {Ctx: 7, Low: 250, High: 499, Mode: 1}, {Ctx: 8, Low: 500, High: 749, Mode: 1}, {Ctx: 9, Low: 750, High: 999, Mode: 1}},
	}
}

// badKeys are not ok, each in one way.
func badKeys() map[string][]impl.KeyRow {
	rows := func(ctxs ...int) []impl.KeyRow {
		var out []impl.KeyRow
		for i, ctx := range ctxs {
			out = append(out, impl.KeyRow{Ctx: ctx, Low: 10 * i, High: 10*i + 4, Mode: 1 + i%3})
		}
		return out
	}
	pair := func(low, high, otherLow, otherHigh int) []impl.KeyRow {
		return []impl.KeyRow{{Ctx: 1, Low: low, High: high, Mode: impl.KeyOne}, {Ctx: 2, Low: otherLow, High: otherHigh, Mode: impl.KeyAll}}
	}
	one := func(row impl.KeyRow) []impl.KeyRow { return []impl.KeyRow{row} }
	return map[string][]impl.KeyRow{
		"one more than KeyMaxRows":       rows(1, 2, 3, 4, 5),
		"nine":                           rows(1, 2, 3, 4, 5, 6, 7, 8, 9),
		"Ctx 0":                          rows(0),
		"Ctx 0 ahead of another":         rows(0, 1),
		"Ctx below 0":                    rows(-1, 1),
		"the least Ctx":                  rows(math.MinInt),
		"Ctx beyond":                     rows(10),
		"Ctx beyond, the last":           rows(7, 8, 9, 10),
		"the greatest Ctx":               rows(math.MaxInt),
		"Ctx twice":                      rows(3, 3),
		"Ctx twice, the last ones":       rows(1, 2, 4, 4),
		"Ctx twice, one between":         rows(3, 4, 3),
		"Ctx descending":                 rows(4, 3),
		"Ctx descending at the end":      rows(1, 2, 9, 8),
		"Ctx descending in between":      rows(1, 5, 2, 6),
		"Low below 0":                    one(impl.KeyRow{Ctx: 1, Low: -1, High: 5, Mode: 1}),
		"both below 0":                   one(impl.KeyRow{Ctx: 1, Low: -5, High: -1, Mode: 1}),
		"the least Low":                  one(impl.KeyRow{Ctx: 1, Low: math.MinInt, High: 5, Mode: 1}),
		"Low above High":                 one(impl.KeyRow{Ctx: 1, Low: 6, High: 5, Mode: 1}),
		"Low far above High":             one(impl.KeyRow{Ctx: 1, Low: 999, High: 0, Mode: 1}),
		"Low above High, behind another": pair(10, 20, 6, 5),
		"High beyond":                    one(impl.KeyRow{Ctx: 1, Low: 5, High: 1000, Mode: 1}),
		"both beyond":                    one(impl.KeyRow{Ctx: 1, Low: 1000, High: 1000, Mode: 1}),
		"the greatest High":              one(impl.KeyRow{Ctx: 1, Low: 0, High: math.MaxInt, Mode: 1}),
		"Mode 0":                         one(impl.KeyRow{Ctx: 1, Low: 0, High: 5, Mode: 0}),
		"Mode 4":                         one(impl.KeyRow{Ctx: 1, Low: 0, High: 5, Mode: 4}),
		"Mode below 0":                   one(impl.KeyRow{Ctx: 1, Low: 0, High: 5, Mode: -1}),
		"the least Mode":                 one(impl.KeyRow{Ctx: 1, Low: 0, High: 5, Mode: math.MinInt}),
		"the greatest Mode":              one(impl.KeyRow{Ctx: 1, Low: 0, High: 5, Mode: math.MaxInt}),
		"Mode 4 behind another":          {{Ctx: 1, Low: 0, High: 5, Mode: 1}, {Ctx: 2, Low: 6, High: 7, Mode: 4}},
		"Mode 0 ahead of another":        {{Ctx: 1, Low: 0, High: 5}, {Ctx: 2, Low: 6, High: 7, Mode: 1}},
		"nothing":                        {{}},
		"they meet at an end":            pair(0, 10, 10, 20),
		"they meet at the other end":     pair(10, 20, 0, 10),
		"they meet":                      pair(0, 10, 5, 15),
		"they meet from behind":          pair(5, 15, 0, 10),
		"one lies in the other":          pair(0, 100, 40, 50),
		"the other lies in the one":      pair(40, 50, 0, 100),
		"they are the same":              pair(40, 50, 40, 50),
		"they begin alike":               pair(40, 50, 40, 45),
		"they end alike":                 pair(45, 50, 40, 50),
		"one destination twice":          pair(7, 7, 7, 7),
		"the last destination twice":     pair(0, 999, 999, 999),
		"the first and the last meet":    {{Ctx: 1, Low: 0, High: 10, Mode: 1}, {Ctx: 2, Low: 20, High: 30, Mode: 1}, {Ctx: 3, Low: 40, High: 50, Mode: 1}, {Ctx: 4, Low: 10, High: 12, Mode: 1}},
		"the second and the last meet":   {{Ctx: 1, Low: 0, High: 10, Mode: 1}, {Ctx: 2, Low: 20, High: 30, Mode: 1}, {Ctx: 3, Low: 40, High: 50, Mode: 1}, {Ctx: 4, Low: 15, High: 20, Mode: 1}},
	}
}

// someKeys are keys by chance, always the same ones, some of them ok.
func someKeys() [][]impl.KeyRow {
	chance := rand.New(rand.NewSource(12))
	var out [][]impl.KeyRow
	for range 20000 {
		list := make([]impl.KeyRow, chance.Intn(6))
		ctx, low := 0, 0
		for i := range list {
			ctx += 1 + chance.Intn(2)
			low += chance.Intn(200)
			high := low + chance.Intn(150)
			list[i] = impl.KeyRow{Ctx: ctx, Low: low, High: high, Mode: 1 + chance.Intn(3)}
			low = high + 1 - chance.Intn(10)/9
		}
		if len(list) > 0 && chance.Intn(3) == 0 {
			row := &list[chance.Intn(len(list))]
			place := []*int{&row.Ctx, &row.Low, &row.High, &row.Mode}[chance.Intn(4)]
			*place += []int{-1, 1, 5, -500, 500}[chance.Intn(5)]
		}
		// Ranges need not be in the order of their destinations.
		if len(list) > 1 {
			i, j := chance.Intn(len(list)), chance.Intn(len(list))
			list[i].Low, list[i].High, list[j].Low, list[j].High = list[j].Low, list[j].High, list[i].Low, list[i].High
		}
		out = append(out, list)
	}
	return out
}

// edgeDests are destinations at the bounds of all keys, around them, and far off.
func edgeDests(list []impl.KeyRow) []int {
	out := append([]int{-1, 0, 1, 500, 998, 999, 1000}, wide...)
	for _, row := range list {
		out = append(out, row.Low-1, row.Low, row.Low+1, row.High-1, row.High, row.High+1)
	}
	return out
}

func TestKeyConstants(t *testing.T) {
	if impl.KeyMaxRows != 4 || impl.KeyOne != 1 || impl.KeyShare != 2 || impl.KeyAll != 3 {
		t.Error("the limit, or a mode")
	}
}

func TestKeyOkOfKeysThatAre(t *testing.T) {
	for _, list := range goodKeys() {
		if !slowKeyOk(list) || !impl.KeyOk(list) {
			t.Errorf("%v are not ok", list)
		}
	}
}

// Keys that are not ok have no destination.
func TestKeyRefusesKeysThatAreNotOk(t *testing.T) {
	for name, list := range badKeys() {
		if slowKeyOk(list) || impl.KeyOk(list) {
			t.Errorf("%s: %v are ok", name, list)
		}
		for _, dest := range edgeDests(list) {
			if got := impl.KeyMatch(list, dest); got != -1 {
				t.Errorf("%s: %v, %d: %d", name, list, dest, got)
			}
		}
	}
	many := make([]impl.KeyRow, 1000)
	for i := range many {
		many[i] = impl.KeyRow{Ctx: i + 1, Low: i, High: i, Mode: 1}
	}
	if impl.KeyOk(many) || impl.KeyMatch(many, 0) != -1 {
		t.Error("a thousand keys")
	}
}

func TestKeyOkOfEachNumber(t *testing.T) {
	places := []func(row *impl.KeyRow) *int{
		func(row *impl.KeyRow) *int { return &row.Ctx },
		func(row *impl.KeyRow) *int { return &row.Low },
		func(row *impl.KeyRow) *int { return &row.High },
		func(row *impl.KeyRow) *int { return &row.Mode },
	}
	for _, good := range goodKeys() {
		for at := range good {
			for which, place := range places {
				for _, n := range append([]int{-1, 0, 1, 2, 3, 4, 5, 8, 9, 10, 11, 12, 99, 100, 249, 250, 299, 300, 399, 400, 499, 500, 998, 999, 1000}, wide...) {
					list := slices.Clone(good)
					*place(&list[at]) = n
					if impl.KeyOk(list) != slowKeyOk(list) {
						t.Errorf("%v, number %d of the key %d is %d: ok is %v", good, which, at, n, impl.KeyOk(list))
					}
				}
			}
		}
	}
}

func TestKeyOkOfAnyTwo(t *testing.T) {
	for low := range 6 {
		for high := low; high < 6; high++ {
			for otherLow := range 6 {
				for otherHigh := otherLow; otherHigh < 6; otherHigh++ {
					list := []impl.KeyRow{{Ctx: 2, Low: low, High: high, Mode: 1}, {Ctx: 7, Low: otherLow, High: otherHigh, Mode: 2}}
					if impl.KeyOk(list) != slowKeyOk(list) {
						t.Errorf("%v: ok is %v", list, impl.KeyOk(list))
					}
				}
			}
		}
	}
}

func TestKeyMatchOfKnownKeys(t *testing.T) {
	list := []impl.KeyRow{{Ctx: 2, Low: 100, High: 199, Mode: impl.KeyOne}, {Ctx: 3, Low: 0, High: 9, Mode: impl.KeyShare}, {Ctx: 8, Low: 200, High: 999, Mode: impl.KeyAll}}
	for dest, want := range map[int]int{
		-1: -1, 0: 1, 5: 1, 9: 1, 10: -1, 99: -1, 100: 0, 150: 0, 199: 0, 200: 2, 201: 2, 999: 2, 1000: -1, math.MinInt: -1, math.MaxInt: -1,
	} {
		if got := impl.KeyMatch(list, dest); got != want {
			t.Errorf("%d: %d, want %d", dest, got, want)
		}
	}
	if impl.KeyMatch(nil, 0) != -1 || impl.KeyMatch([]impl.KeyRow{}, 0) != -1 {
		t.Error("no keys have a destination")
	}
}

// P26: a destination is of one range at most.
func TestKeyMatchOfAllDestinations(t *testing.T) {
	for _, list := range goodKeys() {
		for dest := -2; dest <= 1001; dest++ {
			has := 0
			for _, row := range list {
				if row.Low <= dest && dest <= row.High {
					has++
				}
			}
			got := impl.KeyMatch(list, dest)
			if has > 1 || got != slowMatch(list, dest) || (has == 1) != (got >= 0) {
				t.Fatalf("%v, %d: %d, and %d have it", list, dest, got, has)
			}
		}
	}
}

// P26: the same of keys by chance; those that are not ok match nothing.
func TestKeyMatchOfSomeKeys(t *testing.T) {
	ok := 0
	for _, list := range someKeys() {
		good := slowKeyOk(list)
		if impl.KeyOk(list) != good {
			t.Fatalf("%v: ok is %v", list, !good)
		}
		if good {
			ok++
		}
		for _, dest := range edgeDests(list) {
			want := -1
			if good {
				want = slowMatch(list, dest)
			}
			if got := impl.KeyMatch(list, dest); got != want {
				t.Fatalf("%v, %d: %d, want %d", list, dest, got, want)
			}
		}
	}
	if ok < 3000 || ok > 17000 {
		t.Errorf("%d are ok", ok)
	}
}

func TestKeyTurnOfKnownChoices(t *testing.T) {
	const least, greatest = math.MinInt, math.MaxInt
	for _, c := range []struct{ sls, n, want int }{
		{0, 1, 0}, {5, 1, 0}, {-5, 1, 0}, {least, 1, 0}, {greatest, 1, 0},
		{0, 3, 0}, {1, 3, 1}, {2, 3, 2}, {3, 3, 0}, {7, 3, 1}, {15, 4, 3},
		{-1, 3, 2}, {-2, 3, 1}, {-3, 3, 0}, {-4, 3, 2}, {-1, 2, 1}, {-15, 8, 1},
		{7, 0, 0}, {7, -1, 0}, {-7, -3, 0}, {7, least, 0}, {least, least, 0}, {greatest, least, 0}, {least, -1, 0}, {greatest, 0, 0},
		{least, 2, 0}, {least, 3, 1}, {least, 10, 2}, {greatest, 2, 1}, {greatest, 3, 1}, {greatest, 10, 7},
		{0, greatest, 0}, {1, greatest, 1}, {greatest, greatest, 0}, {greatest - 1, greatest, greatest - 1},
		{-1, greatest, greatest - 1}, {-greatest, greatest, 0}, {least, greatest, greatest - 1}, {least + 2, greatest, 1},
		{greatest, greatest - 1, 1}, {least, greatest - 1, greatest - 3},
	} {
		if got := impl.KeyTurn(c.sls, c.n); got != c.want {
			t.Errorf("%d of %d: %d, want %d", c.sls, c.n, got, c.want)
		}
	}
}

// P26: one of so many is told, always the same one.
func TestKeyTurnTellsOneOfSoMany(t *testing.T) {
	many := append([]int{1, 2, 3, 4, 5, 7, 8, 15, 16, math.MaxInt - 1, 1 << 62, 1<<62 + 1}, wide...)
	choices := append(slices.Clone(many), math.MinInt+1, math.MinInt+2, -3, -4, -5, -15, -16)
	for sls := -40; sls <= 40; sls++ {
		choices = append(choices, sls)
	}
	for _, n := range many {
		for _, sls := range choices {
			got := impl.KeyTurn(sls, n)
			if got != slowTurn(sls, n) || got != impl.KeyTurn(sls, n) {
				t.Errorf("%d of %d: %d, want %d", sls, n, got, slowTurn(sls, n))
			}
			if n >= 1 && (got < 0 || got >= n) || n < 1 && got != 0 {
				t.Errorf("%d of %d: %d", sls, n, got)
			}
			streams := impl.KeyStream(sls, n)
			want := 0
			if n >= 2 {
				want = 1 + slowTurn(sls, n-1)
			}
			if streams != want || streams != impl.KeyStream(sls, n) {
				t.Errorf("%d in %d streams: %d, want %d", sls, n, streams, want)
			}
			if n >= 1 && (streams < 0 || streams >= n) {
				t.Errorf("%d in %d streams: %d", sls, n, streams)
			}
		}
	}
}

func TestKeyStreamOfKnownChoices(t *testing.T) {
	const least, greatest = math.MinInt, math.MaxInt
	for _, c := range []struct{ sls, streams, want int }{
		{5, 1, 0}, {5, 0, 0}, {5, -1, 0}, {5, least, 0}, {-5, 1, 0}, {least, 1, 0}, {greatest, least, 0},
		{0, 2, 1}, {1, 2, 1}, {5, 2, 1}, {-1, 2, 1}, {least, 2, 1}, {greatest, 2, 1},
		{0, 3, 1}, {1, 3, 2}, {2, 3, 1}, {5, 3, 2}, {-1, 3, 2}, {-2, 3, 1}, {least, 3, 1}, {greatest, 3, 2},
		{0, 8, 1}, {6, 8, 7}, {7, 8, 1}, {15, 8, 2}, {-1, 8, 7},
		{-1, greatest, greatest - 1}, {0, greatest, 1}, {greatest, greatest, 2}, {least, greatest, greatest - 3 + 1},
	} {
		if got := impl.KeyStream(c.sls, c.streams); got != c.want {
			t.Errorf("%d in %d streams: %d, want %d", c.sls, c.streams, got, c.want)
		}
	}
	// No stream but the first one, which is for other words, is left out.
	for streams := 2; streams <= impl.FrmMaxStreams; streams++ {
		told := map[int]bool{}
		for sls := range impl.MsgMaxSls + 1 {
			told[impl.KeyStream(sls, streams)] = true
		}
		if told[0] || len(told) != streams-1 {
			t.Errorf("%d streams: %v", streams, told)
		}
	}
}

func TestKeyMemory(t *testing.T) {
	lists := goodKeys()
	for _, list := range badKeys() {
		lists = append(lists, list)
	}
	for _, plain := range lists {
		list := roomy(plain)
		checkMemory(t, "KeyOk", func() []any {
			impl.KeyOk(list)
			return nil
		}, list)
		for _, dest := range []int{-1, 0, 10, 77, 999} {
			checkMemory(t, "KeyMatch", func() []any {
				if got := impl.KeyMatch(list, dest); got != impl.KeyMatch(list, dest) {
					t.Errorf("%v, %d: %d, and another one", list, dest, got)
				}
				return nil
			}, list)
		}
		if impl.KeyOk(list) != impl.KeyOk(plain) {
			t.Errorf("%v: what is behind the end shows", plain)
		}
	}
}
