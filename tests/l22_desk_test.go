package tests

import (
	"fmt"
	"math"
	"math/rand"
	"slices"
	"strconv"
	"strings"
	"testing"

	"loop.example/trunk/impl"
)

// slowWords reads a line byte by byte.
func slowWords(line string) []string {
	var out []string
	word := ""
	for _, b := range []byte(line + " ") {
		if b == '#' {
			break
		}
		if b != ' ' {
			word += string([]byte{b})
			continue
		}
		if word != "" {
			out = append(out, word)
		}
		word = ""
	}
	// What stands ahead of a note is a word, too.
	if word != "" {
		out = append(out, word)
	}
	for _, word := range out {
		if len(word) > 12 {
			return []string{"?"}
		}
	}
	if len(out) > 6 {
		return []string{"?"}
	}
	return out
}

// deskForm is a line that asks for something to happen: G is the name of a gateway, H that of a server, A that of any node, 9 a number, B one of a byte.
// What it is told of each is the place of a node, or the number.
type deskForm struct {
	form  string
	event func(ns []int, gates int) impl.TrunkEvent
}

var deskForms = []deskForm{
	{"give G 9 9 B", func(ns []int, gates int) impl.TrunkEvent {
		return impl.TrunkEvent{Kind: 1, At: ns[0], Unit: impl.SrvUnit{Dest: ns[1], Sls: ns[2], Body: []byte{byte(ns[3])}}}
	}},
	{"bring", func(ns []int, gates int) impl.TrunkEvent { return impl.TrunkEvent{Kind: 2} }},
	{"bring 9", func(ns []int, gates int) impl.TrunkEvent { return impl.TrunkEvent{Kind: 2, At: ns[0]} }},
	{"double", func(ns []int, gates int) impl.TrunkEvent { return impl.TrunkEvent{Kind: 3} }},
	{"double 9", func(ns []int, gates int) impl.TrunkEvent { return impl.TrunkEvent{Kind: 3, At: ns[0]} }},
	{"lose", func(ns []int, gates int) impl.TrunkEvent { return impl.TrunkEvent{Kind: 4} }},
	{"lose 9", func(ns []int, gates int) impl.TrunkEvent { return impl.TrunkEvent{Kind: 4, At: ns[0]} }},
	{"clock", func(ns []int, gates int) impl.TrunkEvent { return impl.TrunkEvent{Kind: 6} }},
	{"tick A", func(ns []int, gates int) impl.TrunkEvent { return impl.TrunkEvent{Kind: 5, At: ns[0]} }},
	{"fall A", func(ns []int, gates int) impl.TrunkEvent { return impl.TrunkEvent{Kind: 7, At: ns[0]} }},
	{"rise A", func(ns []int, gates int) impl.TrunkEvent { return impl.TrunkEvent{Kind: 8, At: ns[0]} }},
	{"off G 9", func(ns []int, gates int) impl.TrunkEvent { return evTell(ns[0], 11, ns[1]) }},
	{"on G 9", func(ns []int, gates int) impl.TrunkEvent { return evTell(ns[0], 12, ns[1]) }},
	{"jam G 9", func(ns []int, gates int) impl.TrunkEvent { return evTell(ns[0], 13, ns[1]) }},
	{"want H 9", func(ns []int, gates int) impl.TrunkEvent { return evWant(ns[0], ns[1], true) }},
	{"leave H 9", func(ns []int, gates int) impl.TrunkEvent { return evWant(ns[0], ns[1], false) }},
	{"close G H", func(ns []int, gates int) impl.TrunkEvent { return evClose(ns[0], ns[1]-gates, false) }},
	{"close H G", func(ns []int, gates int) impl.TrunkEvent { return evClose(ns[0], ns[1], false) }},
	{"abort G H", func(ns []int, gates int) impl.TrunkEvent { return evClose(ns[0], ns[1]-gates, true) }},
	{"abort H G", func(ns []int, gates int) impl.TrunkEvent { return evClose(ns[0], ns[1], true) }},
}

// slowFit is what a word tells where a letter stands; false, if it does not fit.
func slowFit(w impl.TrunkWorld, letter string, word string) (int, bool) {
	n := slowNumber(word)
	switch letter {
	case "9":
		return n, n >= 0
	case "B":
		return n, n >= 0 && n < 256
	}
	for at, g := range w.Gates {
		if g.Name == n && letter != "H" {
			return at, true
		}
	}
	for at, h := range w.Hosts {
		if h.Name == n && letter != "G" {
			return len(w.Gates) + at, true
		}
	}
	return 0, false
}

// slowEvent holds a line against each form.
func slowEvent(w impl.TrunkWorld, line string) (impl.TrunkEvent, bool) {
	if !slowWorldOk(w) {
		return impl.TrunkEvent{}, false
	}
	words := slowWords(line)
	for _, f := range deskForms {
		letters := strings.Fields(f.form)
		if len(letters) != len(words) || letters[0] != words[0] {
			continue
		}
		var ns []int
		for at, letter := range letters[1:] {
			if n, fits := slowFit(w, letter, words[at+1]); fits {
				ns = append(ns, n)
			}
		}
		if len(ns) == len(letters)-1 {
			return f.event(ns, len(w.Gates)), true
		}
	}
	return impl.TrunkEvent{}, false
}

// slowAnswer is what a line asks of an ok world; false, if it asks nothing.
func slowAnswer(w impl.TrunkWorld, words []string) (string, bool) {
	switch {
	case len(words) == 1 && words[0] == "board":
		return slowBoard(w), true
	case len(words) == 1 && words[0] == "got":
		text := ""
		for _, one := range w.Got {
			text += fmt.Sprintf("unit %d by %d life %d\n", one.Mark, one.Host, one.Life)
		}
		return text, true
	case len(words) == 2 && words[0] == "where" && slowNumber(words[1]) >= 0:
		class := slowClass(w, slowNumber(words[1]))
		word := map[int]string{0: "none", 1: "got", 2: "waits", 3: "queued", 4: "flies"}[class]
		if why := classNames[class]; word == "" {
			word = strings.TrimSpace("dropped " + why)
		}
		return "unit " + words[1] + " " + word + "\n", true
	}
	return "", false
}

// slowRounds are the rounds of calm that a line asks for, and what is lost; false, if it asks for none.
func slowRounds(words []string) (int, int, bool) {
	if len(words) < 2 || words[0] != "calm" || slowNumber(words[1]) < 0 || slowNumber(words[1]) > 10 {
		return 0, 0, false
	}
	if len(words) == 2 {
		return slowNumber(words[1]), -1, true
	}
	return slowNumber(words[1]), slowNumber(words[2]), len(words) == 3 && (words[2] == "0" || words[2] == "1")
}

func slowSay(w impl.TrunkWorld, line string) (impl.TrunkWorld, string) {
	words := slowWords(line)
	if !slowWorldOk(w) {
		return impl.TrunkWorld{}, ""
	}
	if len(words) == 0 {
		return w, ""
	}
	if answer, asks := slowAnswer(w, words); asks {
		return w, answer
	}
	if rounds, lost, calm := slowRounds(words); calm {
		return slowCalmly(w, rounds, lost), "ok\n"
	}
	if e, is := slowEvent(w, line); is {
		return slowWorldStep(w, e), "ok\n"
	}
	return w, "? " + words[0] + "\n"
}

// checkSay holds a line against the slow reading; P35: if it asks for something to happen, that happens, and nothing does with a question, or behind a question mark.
func checkSay(t *testing.T, w impl.TrunkWorld, line string) (impl.TrunkWorld, string) {
	t.Helper()
	e, happens := impl.DeskEvent(w, line)
	want, is := slowEvent(w, line)
	if happens != is || !sameValue(e, want) {
		t.Fatalf("%q: %v %v, want %v %v", line, e, happens, want, is)
	}
	next, answer := impl.DeskSay(w, line)
	wanted, told := slowSay(w, line)
	if answer != told || !sameValue(next, wanted) {
		t.Fatalf("%q: %q, want %q\n%v, want\n%v", line, answer, told, next, wanted)
	}
	if happens && (answer != "ok\n" || !sameValue(next, impl.TrunkStep(w, e))) {
		t.Fatalf("%q: %q\n%v", line, answer, next)
	}
	if answer != "ok\n" && !sameValue(next, w) {
		t.Fatalf("%q turns\n%v\ninto\n%v", line, w, next)
	}
	return next, answer
}

func TestDeskConstants(t *testing.T) {
	if got := []int{impl.DeskMaxWords, impl.DeskMaxWord, impl.DeskMaxRounds}; !slices.Equal(got, []int{6, 12, 10}) {
		t.Errorf("%v", got)
	}
}

func TestDeskWords(t *testing.T) {
	for line, want := range map[string][]string{
		"":                                      nil,
		"   ":                                   nil,
		"#":                                     nil,
		"  # a b":                               nil,
		"a":                                     {"a"},
		" a  b ":                                {"a", "b"},
		"  a b#c":                               {"a", "b"},
		"a#b c":                                 {"a"},
		"a #b#c":                                {"a"},
		"##":                                    nil,
		"give 1 2 3 4":                          {"give", "1", "2", "3", "4"},
		"a b c d e f":                           {"a", "b", "c", "d", "e", "f"},
		"a b c d e f ":                          {"a", "b", "c", "d", "e", "f"},
		"a b c d e f g":                         {"?"},
		"a b c d e f #g":                        {"a", "b", "c", "d", "e", "f"},
		"a b c d e f#g h i":                     {"a", "b", "c", "d", "e", "f"},
		"abcdefghijkl":                          {"abcdefghijkl"},
		"abcdefghijklm":                         {"?"},
		"abcdefghijkl#m":                        {"abcdefghijkl"},
		"a #abcdefghijklm":                      {"a"},
		"a abcdefghijklm":                       {"?"},
		"a b abcdefghijklm #":                   {"?"},
		"abcdefghijkl abcdefghijkl":             {"abcdefghijkl", "abcdefghijkl"},
		"?":                                     {"?"},
		"? a":                                   {"?", "a"},
		"a\tb\rc":                               {"a\tb\rc"},
		"a\nb c":                                {"a\nb", "c"},
		"\x00 \xff\xfe":                         {"\x00", "\xff\xfe"},
		"a\u00a0b":                              {"a\u00a0b"},
		"a\u2003b c":                            {"a\u2003b", "c"},
		"\u00e9\u00e9\u00e9\u00e9\u00e9\u00e9":  {"\u00e9\u00e9\u00e9\u00e9\u00e9\u00e9"},
		"\u00e9\u00e9\u00e9\u00e9\u00e9\u00e9b": {"?"},
		strings.Repeat("a ", 7):                 {"?"},
		strings.Repeat(" ", 9999):               nil,
		strings.Repeat("a", 9999):               {"?"},
		"#" + strings.Repeat("a", 99):           nil,
	} {
		if got := impl.DeskWords(line); !slices.Equal(got, want) || !slices.Equal(slowWords(line), want) {
			t.Errorf("%q: %q, want %q", line, got, want)
		}
	}
	chance := rand.New(rand.NewSource(22))
	for range 5000 {
		line := make([]byte, chance.Intn(40))
		for at := range line {
			line[at] = []byte("ab1?\t\n\xff\xc3\xa9####          ")[chance.Intn(21)]
			if line[at] == '#' && chance.Intn(4) > 0 {
				line[at] = 'x'
			}
		}
		if got := impl.DeskWords(string(line)); !slices.Equal(got, slowWords(string(line))) {
			t.Fatalf("%q: %q, want %q", line, got, slowWords(string(line)))
		}
	}
}

// What each line asks for, told by hand: the gateways 1 and 5, the servers 11, 12 and 13.
func TestDeskEventByHand(t *testing.T) {
	w := busyWorld()
	unit := func(dest int, sls int, b byte) impl.SrvUnit {
		return impl.SrvUnit{Dest: dest, Sls: sls, Body: []byte{b}}
	}
	for line, want := range map[string]impl.TrunkEvent{
		"give 1 5 3 7":              {Kind: impl.TrunkGives, At: 0, Unit: unit(5, 3, 7)},
		"  give 5  999 15 255 # so": {Kind: impl.TrunkGives, At: 1, Unit: unit(999, 15, 255)},
		"give 1 0 0 0":              {Kind: impl.TrunkGives, At: 0, Unit: unit(0, 0, 0)},
		"give 1 999999 999999 1#5":  {Kind: impl.TrunkGives, At: 0, Unit: unit(999999, 999999, 1)},
		"bring":                     {Kind: impl.TrunkBrings},
		"bring 0":                   {Kind: impl.TrunkBrings},
		"bring 3":                   {Kind: impl.TrunkBrings, At: 3},
		"bring 999999":              {Kind: impl.TrunkBrings, At: 999999},
		"bring #3":                  {Kind: impl.TrunkBrings},
		"double":                    {Kind: impl.TrunkDoubles},
		"double 2":                  {Kind: impl.TrunkDoubles, At: 2},
		"lose":                      {Kind: impl.TrunkLoses},
		"lose 1":                    {Kind: impl.TrunkLoses, At: 1},
		"clock":                     {Kind: impl.TrunkClocks},
		"tick 1":                    {Kind: impl.TrunkTicks, At: 0},
		"tick 5":                    {Kind: impl.TrunkTicks, At: 1},
		"tick 11":                   {Kind: impl.TrunkTicks, At: 2},
		"tick 13":                   {Kind: impl.TrunkTicks, At: 4},
		"fall 5":                    {Kind: impl.TrunkFalls, At: 1},
		"fall 12":                   {Kind: impl.TrunkFalls, At: 3},
		"rise 1":                    {Kind: impl.TrunkRises, At: 0},
		"rise 13":                   {Kind: impl.TrunkRises, At: 4},
		"off 1 7":                   {Kind: impl.TrunkTells, At: 0, Word: impl.MsgWord{Kind: impl.MsgOff, Num: 7}},
		"off 5 0":                   {Kind: impl.TrunkTells, At: 1, Word: impl.MsgWord{Kind: impl.MsgOff}},
		"on 5 999999":               {Kind: impl.TrunkTells, At: 1, Word: impl.MsgWord{Kind: impl.MsgOn, Num: 999999}},
		"jam 1 3":                   {Kind: impl.TrunkTells, At: 0, Word: impl.MsgWord{Kind: impl.MsgJam, Num: 3}},
		"want 11 2":                 {Kind: impl.TrunkWants, At: 2, N: 2, Word: impl.MsgWord{Kind: impl.MsgActive}},
		"want 13 0":                 {Kind: impl.TrunkWants, At: 4, Word: impl.MsgWord{Kind: impl.MsgActive}},
		"leave 12 9":                {Kind: impl.TrunkWants, At: 3, N: 9, Word: impl.MsgWord{Kind: impl.MsgIdle}},
		"leave 12 999999":           {Kind: impl.TrunkWants, At: 3, N: 999999, Word: impl.MsgWord{Kind: impl.MsgIdle}},
		"close 1 11":                {Kind: impl.TrunkCloses, At: 0, N: 0},
		"close 1 13":                {Kind: impl.TrunkCloses, At: 0, N: 2},
		"close 5 12":                {Kind: impl.TrunkCloses, At: 1, N: 1},
		"close 12 1":                {Kind: impl.TrunkCloses, At: 3, N: 0},
		"close 13 5":                {Kind: impl.TrunkCloses, At: 4, N: 1},
		"abort 5 13":                {Kind: impl.TrunkCloses, At: 1, N: 2, Word: impl.MsgWord{Num: 1}},
		"abort 11 5":                {Kind: impl.TrunkCloses, At: 2, N: 1, Word: impl.MsgWord{Num: 1}},
	} {
		if got, is := impl.DeskEvent(w, line); !is || !sameValue(got, want) {
			t.Errorf("%q: %v %v, want %v", line, got, is, want)
		}
		if _, answer := checkSay(t, w, line); answer != "ok\n" {
			t.Errorf("%q: %q", line, answer)
		}
	}
}

// Lines that ask for nothing that happens, and what is answered.
func TestDeskEventOfNone(t *testing.T) {
	w := busyWorld()
	var lines []string
	for line, words := range map[string][]string{
		"give":  {"", "1", "1 5", "1 5 3", "1 5 3 7 9", "11 5 3 7", "2 5 3 7", "0 5 3 7", "01 5 3 7", "1 05 3 7", "1 5 03 7", "1 5 3 07", "1 5 3 256", "1 5 3 999999", "1 1000000 3 7", "1 5 1000000 7", "1 -5 3 7", "1 5 -3 7", "1 5 3 -7", "1 +5 3 7", "1 x 3 7", "1 5 3 x", "x 5 3 7", "1 5 3 00", "-1 5 3 7", "1 5 3 # 7"},
		"bring": {"00", "01", "-1", "+1", "x", "1000000", "1 1", "0 0"},
		"clock": {"0", "1", "1 1"},
		"tick":  {"", "0", "2", "14", "01", "-1", "1 1", "x", "1 11"},
		"fall":  {"", "0", "6", "11 0", "011"},
		"rise":  {"", "111", "13 13", "all"},
		"off":   {"", "1", "11 5", "1 5 5", "3 5", "1 05", "1 1000000", "1 -5", "x 5", "1 x"},
		"on":    {"", "1", "13 5", "1 5 5", "1 00"},
		"jam":   {"", "5", "12 1", "1 1 1", "1 +1"},
		"want":  {"", "11", "1 2", "5 2", "11 2 2", "14 2", "11 02", "11 1000000", "x 2", "11 x"},
		"leave": {"", "12", "1 2", "12 2 2", "12 -2"},
		"close": {"", "1", "1 5", "5 1", "1 1", "11 12", "11 11", "1 14", "14 1", "1 11 0", "1 11 13", "1 0", "0 11", "01 11", "1 011", "x 11", "1 x"},
		"abort": {"", "11", "1 5", "13 12", "1 1", "5 14", "2 11", "1 11 1"},
		"where": {"", "1 2", "x", "-1", "01", "00", "1000000", "+1"},
		"board": {"1", "x", "board"},
		"got":   {"1", "got"},
		"calm":  {"", "11", "999999", "1000000", "-1", "01", "x", "1 2", "1 -1", "1 01", "1 x", "1 00", "1 0 0", "11 0"},
		"Clock": {""}, "BOARD": {""}, "clocks": {""}, "cloc": {""}, "frob": {"", "1", "1 2 3 4 5"}, "?": {"", "1"}, "ok": {""}, "0": {""}, "1": {""},
	} {
		for _, behind := range words {
			lines = append(lines, strings.TrimSuffix(line+" "+behind, " "))
		}
	}
	for _, same := range []string{"double", "lose"} {
		for _, behind := range []string{"00", "01", "-1", "x", "1000000", "1 1"} {
			lines = append(lines, same+" "+behind)
		}
	}
	for _, line := range lines {
		if e, is := impl.DeskEvent(w, line); is || !sameValue(e, impl.TrunkEvent{}) {
			t.Errorf("%q: %v %v", line, e, is)
		}
		next, answer := checkSay(t, w, line)
		if want := "? " + strings.Fields(line)[0] + "\n"; answer != want || !sameValue(next, w) {
			t.Errorf("%q: %q, want %q", line, answer, want)
		}
	}
	for line, want := range map[string]string{
		"abcdefghijklm": "? ?\n", "clock abcdefghijklm": "? ?\n", "clock a b c d e f": "? ?\n", "give 1 5 3 7 8 9": "? ?\n",
		"abcdefghijkl": "? abcdefghijkl\n", "frob#nicate": "? frob\n", "\tclock": "? \tclock\n", "clock\n": "? clock\n\n", "\xff": "? \xff\n",
		"": "", "   ": "", "#": "", " # clock": "", "#clock": "",
	} {
		if _, answer := checkSay(t, w, line); answer != want {
			t.Errorf("%q: %q, want %q", line, answer, want)
		}
		if e, is := impl.DeskEvent(w, line); is || !sameValue(e, impl.TrunkEvent{}) {
			t.Errorf("%q: %v", line, e)
		}
	}
	// Questions, and calm, are no events.
	for _, line := range []string{"board", "got", "where 1", "calm 0", "calm 1", "calm 1 0"} {
		if e, is := impl.DeskEvent(w, line); is || !sameValue(e, impl.TrunkEvent{}) {
			t.Errorf("%q: %v", line, e)
		}
	}
}

// Names of one kind where the other one is asked, in worlds of other sizes and names.
func TestDeskNames(t *testing.T) {
	for name, w := range map[string]impl.TrunkWorld{
		"one gateway alone":  openWorld(fourKeys(), []int{999}, nil),
		"two gateways alone": openWorld(fourKeys(), []int{1, 2}, nil),
		"servers among them": openWorld(fourKeys(), []int{2, 4}, []impl.TrunkWish{{Name: 1}, {Name: 3}, {Name: 5}}),
		"nobody is up":       happens(openWorld(fourKeys(), []int{2}, []impl.TrunkWish{{Name: 1}}), evFall(0), evFall(1)),
		"busy":               busyWorld(),
		"fallen":             fallenWorld(),
	} {
		happened := 0
		for _, first := range []int{0, 1, 2, 3, 4, 5, 6, 11, 12, 13, 999} {
			for _, word := range []string{"tick", "fall", "rise"} {
				checkSay(t, w, fmt.Sprintf("%s %d", word, first))
			}
			checkSay(t, w, fmt.Sprintf("give %d 5 5 5", first))
			for _, second := range []int{0, 1, 2, 3, 4, 5, 11, 12, 13, 999} {
				for _, word := range []string{"off", "on", "jam", "want", "leave", "close", "abort"} {
					if _, answer := checkSay(t, w, fmt.Sprintf("%s %d %d", word, first, second)); answer == "ok\n" {
						happened++
					}
				}
			}
		}
		if gates, hosts := len(w.Gates), len(w.Hosts); happened != 10*(3*gates+2*hosts)+4*gates*hosts {
			t.Errorf("%s: %d lines ask for something", name, happened)
		}
	}
}

// A line turns the world as its event does: each kind, told by what comes of it.
func TestDeskSayTurns(t *testing.T) {
	w := openWorld(fourKeys(), []int{1, 5}, []impl.TrunkWish{{Name: 11, Wish: []int{1}}, {Name: 12, Wish: []int{1, 2}}})
	say := func(line string) impl.TrunkWorld {
		t.Helper()
		next, answer := checkSay(t, w, line)
		if answer != "ok\n" || sameValue(next, w) {
			t.Fatalf("%q: %q, and\n%v", line, answer, next)
		}
		w = next
		return w
	}
	if say("clock").Now != 1 || len(say("tick 11").Air) == 0 {
		t.Error("clock, tick")
	}
	if air := len(w.Air); len(say("double 1").Air) != air+1 || len(say("lose").Air) != air || len(say("lose 1").Air) != air-1 {
		t.Error("double, lose")
	}
	if !slices.Equal(say("off 5 7").Gates[1].Book.Off, []int{7}) || say("jam 1 2").Gates[0].Book.Jam != 2 || len(say("on 5 7").Gates[1].Book.Off) != 0 {
		t.Error("off, jam, on")
	}
	if say("calm 5").Now != 6 || !impl.TrunkServed(w) {
		t.Error("calm")
	}
	if say("give 1 5 3 77"); len(w.Given) != 1 || w.Given[0].Gate != 1 || !sameValue(w.Given[0].Unit, impl.SrvUnit{Mark: 1, Dest: 5, Sls: 3, Body: []byte{77}}) {
		t.Errorf("%v", w.Given)
	}
	if say("bring"); len(w.Got) != 1 || w.Got[0].Sls != 3 {
		t.Errorf("%v", w.Got)
	}
	if !slices.Equal(say("want 11 2").Hosts[0].Book.Wish, []int{1, 2}) || !slices.Equal(say("leave 11 1").Hosts[0].Book.Wish, []int{2}) {
		t.Error("want, leave")
	}
	if say("close 5 12").Gates[1].Ends[1].Line.State != impl.AscShuts || say("abort 12 1").Hosts[1].Ends[0].Line.State != impl.AscClosed {
		t.Error("close, abort")
	}
	if say("fall 5").Gates[1].Up || say("fall 11").Hosts[0].Up || w.Hosts[0].Falls != 1 || !say("rise 5").Gates[1].Up || !say("rise 11").Hosts[0].Up {
		t.Error("fall, rise")
	}
}

// Something is asked for and nothing comes of it: that is no question mark.
func TestDeskSayOfNothing(t *testing.T) {
	w := fallenWorld()
	for _, line := range []string{"give 5 5 16 7", "give 5 1000 5 7", "give 1 5 5 5", "bring 999", "lose 40", "double 40", "tick 1", "tick 12", "fall 12", "want 11 0", "want 11 10", "leave 11 999999", "off 5 1000", "jam 5 4", "on 5 999", "close 1 11", "abort 12 5", "calm 0", "calm 0 0", "calm 0 1"} {
		if next, answer := checkSay(t, w, line); answer != "ok\n" || !sameValue(next, w) {
			t.Errorf("%q: %q", line, answer)
		}
	}
}

func TestDeskCalm(t *testing.T) {
	for name, w := range map[string]impl.TrunkWorld{"busy": busyWorld(), "fallen": fallenWorld()} {
		for rounds := range 11 {
			for line, lost := range map[string]int{"calm %d": -1, "calm %d 0": 0, "calm %d 1 # so": 1} {
				line = fmt.Sprintf(line, rounds)
				next, answer := impl.DeskSay(w, line)
				if answer != "ok\n" || !sameValue(next, impl.TrunkCalmly(w, rounds, lost)) || next.Now != w.Now+rounds {
					t.Errorf("%s: %q: %q\n%v", name, line, answer, next)
				}
			}
		}
		// What is lost makes another world.
		one, _ := checkSay(t, w, "calm 10 0")
		other, _ := checkSay(t, w, "calm 10 1")
		if none, _ := checkSay(t, w, "calm 10"); sameValue(one, other) || sameValue(one, none) || sameValue(other, none) {
			t.Errorf("%s: nothing is lost", name)
		}
	}
}

// whereText asks where a unit is.
func whereText(t *testing.T, w impl.TrunkWorld, mark int) string {
	t.Helper()
	_, answer := checkSay(t, w, fmt.Sprint("where ", mark))
	head := fmt.Sprint("unit ", mark, " ")
	if !strings.HasPrefix(answer, head) || strings.Count(answer, "\n") != 1 {
		t.Fatalf("%q", answer)
	}
	return strings.TrimSuffix(strings.TrimPrefix(answer, head), "\n")
}

// Units of each class, and of each reason, in a world that lines led to.
func TestDeskWhere(t *testing.T) {
	w := openWorld([]impl.KeyRow{{Ctx: 2, Low: 500, High: 509, Mode: 1}, {Ctx: 3, Low: 600, High: 609, Mode: 1}, {Ctx: 4, Low: 700, High: 709, Mode: 1}}, []int{1}, []impl.TrunkWish{{Name: 11, Wish: []int{2}}, {Name: 12, Wish: []int{3}}})
	says := func(lines ...string) {
		t.Helper()
		for _, line := range lines {
			next, answer := checkSay(t, w, line)
			if answer != "ok\n" {
				t.Fatalf("%q: %q", line, answer)
			}
			w = next
		}
	}
	where := func(want ...string) {
		t.Helper()
		for at, what := range want {
			if got := whereText(t, w, at+1); got != what {
				t.Errorf("%d: %q, want %q", at+1, got, what)
			}
		}
		if len(want) != len(w.Given) || whereText(t, w, len(want)+1) != "none" || whereText(t, w, 0) != "none" || whereText(t, w, 999999) != "none" {
			t.Errorf("%d were given", len(w.Given))
		}
	}
	says("calm 5", "give 1 500 1 7", "bring", "give 1 510 1 7", "give 1 700 1 7", "off 1 501", "give 1 501 1 7")
	where("got", "dropped nokey", "dropped nobody", "dropped off")
	w.Air = nil
	for range 10 {
		says("give 1 500 1 7")
	}
	fly := []string{}
	for at := 5; at <= 14; at++ {
		fly = append(fly, whereText(t, w, at))
	}
	queued, jammed := slices.Index(fly, "queued"), slices.Index(fly, "dropped jammed")
	if queued < 1 || jammed <= queued || jammed == len(fly) {
		t.Fatalf("%q", fly)
	}
	for at, what := range fly {
		want := "flies"
		if at >= queued {
			want = "queued"
		}
		if at >= jammed {
			want = "dropped jammed"
		}
		if what != want {
			t.Errorf("%d: %q, want %q", 5+at, what, want)
		}
	}
	says("abort 1 12", "give 1 600 1 7", "give 1 600 1 7", "give 1 600 1 7", "give 1 600 1 7", "give 1 600 1 7", "give 1 600 1 7", "give 1 600 1 7")
	where(slices.Concat([]string{"got", "dropped nokey", "dropped nobody", "dropped off"}, fly, []string{"waits", "waits", "waits", "waits", "waits", "waits", "dropped full"})...)
	says("tick 1", "tick 1", "tick 1", "tick 1", "tick 1")
	if whereText(t, w, 15) != "dropped expired" || whereText(t, w, 20) != "dropped expired" || whereText(t, w, 21) != "dropped full" {
		t.Error("none is expired")
	}
	says("abort 1 11")
	for at, what := range fly {
		want := map[string]string{"flies": "dropped ended", "queued": "waits"}[what]
		if got := whereText(t, w, 5+at); want != "" && got != want {
			t.Errorf("%d was %q and is %q", 5+at, what, got)
		}
	}
	says("fall 1")
	for at, what := range fly {
		if got := whereText(t, w, 5+at); what == "queued" && got != "dropped fell" {
			t.Errorf("%d was %q and is %q", 5+at, what, got)
		}
	}
}

// The word for each class: the reasons 1 to 8, and others, which no step tells.
func TestDeskWhereOfEachReason(t *testing.T) {
	words := []string{"nokey", "nobody", "expired", "full", "off", "ended", "jammed", "fell"}
	for why := -12; why <= 30; why++ {
		w := gotWorld()
		w.Drops[2].Why = why
		want := "dropped"
		switch {
		case why >= 1 && why <= 8:
			want = "dropped " + words[why-1]
		case why >= -10 && why <= -6:
			want = []string{"none", "got", "waits", "queued", "flies"}[why+10]
		}
		if got := whereText(t, w, 3); got != want {
			t.Errorf("%d: %q, want %q", why, got, want)
		}
	}
	for _, why := range []int{math.MinInt, math.MaxInt} {
		w := gotWorld()
		w.Drops[2].Why = why
		if got := whereText(t, w, 3); got != "dropped" {
			t.Errorf("%d: %q", why, got)
		}
	}
}

func TestDeskGot(t *testing.T) {
	w := gotWorld()
	if _, answer := checkSay(t, w, "got"); answer != "" {
		t.Errorf("%q", answer)
	}
	w = gotWorld(got(11, 0, 1, 2, 3), got(12, 7, 1, 1, 3), got(11, 1000, 1, 1, 3), got(-5, -6, -7, -8, -9))
	if _, answer := checkSay(t, w, " got #"); answer != "unit 2 by 11 life 0\nunit 1 by 12 life 7\nunit 1 by 11 life 1000\nunit -8 by -5 life -6\n" {
		t.Errorf("%q", answer)
	}
}

func TestDeskBoard(t *testing.T) {
	for name, w := range goodWorlds() {
		if _, answer := checkSay(t, w, "board"); answer != impl.TrunkBoard(w) || answer == "" {
			t.Errorf("%s: %q", name, answer)
		}
	}
}

// Each line in worlds that are ok, some at bounds; what is not ok is answered by nothing.
func TestDeskSayOfWorlds(t *testing.T) {
	lines := []string{"", "#", "board", "got", "where 0", "where 1", "where 24", "where 25", "calm 1", "calm 1 0", "frob", "?"}
	for _, f := range deskForms {
		lines = append(lines, strings.NewReplacer("G", "1", "H", "11", "A", "11", "9", "5", "B", "5").Replace(f.form))
	}
	for name, w := range goodWorlds() {
		for _, line := range lines {
			if _, answer := checkSay(t, w, line); answer == "" && line != "" && line != "#" && line != "got" {
				t.Errorf("%s: %q is not answered", name, line)
			}
		}
	}
	for name, w := range badWorlds() {
		for _, line := range lines {
			if e, is := impl.DeskEvent(w, line); is || !sameValue(e, impl.TrunkEvent{}) {
				t.Errorf("%s: %q: %v", name, line, e)
			}
			if next, answer := impl.DeskSay(w, line); answer != "" || !sameValue(next, impl.TrunkWorld{}) {
				t.Errorf("%s: %q: %q", name, line, answer)
			}
		}
	}
}

// scribe writes lines by chance.
type scribe struct {
	chance *rand.Rand
	gates  []int
	hosts  []int
	dests  []int
}

func scribeOf(chance *rand.Rand, w impl.TrunkWorld) *scribe {
	s := &scribe{chance: chance, dests: []int{999}}
	for _, row := range w.Gates[0].Book.Keys {
		s.dests = append(s.dests, row.Low, row.Low, row.High)
	}
	for _, g := range w.Gates {
		s.gates = append(s.gates, g.Name)
	}
	for _, h := range w.Hosts {
		s.hosts = append(s.hosts, h.Name)
	}
	return s
}

func (s *scribe) one(list []int) string {
	if len(list) == 0 {
		return "7"
	}
	return strconv.Itoa(list[s.chance.Intn(len(list))])
}

// fits is a line that fits, most often.
func (s *scribe) fits() string {
	chance := s.chance
	both := slices.Concat(s.gates, s.hosts)
	number := strconv.Itoa(chance.Intn(5))
	switch n := chance.Intn(60); {
	case n < 14:
		return "give " + s.one(s.gates) + " " + s.one(s.dests) + " " + number + " " + strconv.Itoa(chance.Intn(256))
	case n < 26:
		return "bring"
	case n < 32:
		return []string{"bring", "double", "lose"}[chance.Intn(3)] + " " + number
	case n < 37:
		return "tick " + s.one(both)
	case n < 39:
		return []string{"clock", "double", "lose"}[chance.Intn(3)]
	case n < 41:
		return []string{"fall ", "rise ", "rise "}[chance.Intn(3)] + s.one(both)
	case n < 44:
		return []string{"off ", "on "}[chance.Intn(2)] + s.one(s.gates) + " " + s.one(s.dests)
	case n < 45:
		return "jam " + s.one(s.gates) + " " + number
	case n < 48:
		return []string{"want ", "leave "}[chance.Intn(2)] + s.one(s.hosts) + " " + []string{"1", "2", "4", "7"}[chance.Intn(4)]
	case n < 50:
		return []string{"close ", "abort "}[chance.Intn(2)] + []string{s.one(s.gates) + " " + s.one(s.hosts), s.one(s.hosts) + " " + s.one(s.gates)}[chance.Intn(2)]
	case n < 52:
		return "calm " + strconv.Itoa(chance.Intn(3)) + []string{"", " 0", " 1"}[chance.Intn(3)]
	case n < 56:
		return "where " + strconv.Itoa(chance.Intn(10))
	}
	return []string{"board", "got", "", "# so"}[chance.Intn(4)]
}

// line is a line that may be turned a little: a word less, one more, another one.
func (s *scribe) line() string {
	line := s.fits()
	words := strings.Fields(line)
	if len(words) > 0 && s.chance.Intn(5) == 0 {
		switch at := s.chance.Intn(len(words)); s.chance.Intn(4) {
		case 0:
			words = slices.Delete(words, at, at+1)
		case 1:
			words = slices.Insert(words, at, s.word())
		case 2:
			words[at] = s.word()
		case 3:
			words = append(words, s.word())
		}
		line = strings.Join(words, " ")
	}
	if s.chance.Intn(8) == 0 {
		line = "  " + strings.ReplaceAll(line, " ", "  ") + " # so"
	}
	return line
}

func (s *scribe) word() string {
	return []string{"0", "1", "01", "00", "11", "10", "255", "256", "999999", "1000000", "-1", "#", "x", "give", "calm", "board", "tick", "abcdefghijkl", "abcdefghijklm", s.one(s.gates), s.one(s.hosts)}[s.chance.Intn(21)]
}

// P35: along lines by chance. P55: the numbers of the board add up, and are those of the classes, wherever lines lead to.
func TestDeskSayAlongTheWay(t *testing.T) {
	seen := map[string]int{}
	for seed := range int64(40) {
		chance := rand.New(rand.NewSource(2200 + seed))
		w := someWorld(chance)
		if chance.Intn(4) > 0 {
			w = impl.TrunkCalmly(w, 5, -1)
		}
		s := scribeOf(chance, w)
		for range 120 {
			line := s.line()
			next, answer := checkSay(t, w, line)
			w = next
			if words := strings.Fields(answer); len(words) > 0 {
				seen[words[0]]++
			}
			checkBoardAddsUp(t, w, seen)
		}
	}
	for _, word := range []string{"ok", "?", "unit", "now"} {
		if seen[word] < 50 {
			t.Errorf("%s: %d times", word, seen[word])
		}
	}
	for _, name := range []string{"got", "waits", "queued", "flies", "dropped"} {
		if seen["where "+name] < 20 {
			t.Errorf("%s: %d times", name, seen["where "+name])
		}
	}
}

// checkBoardAddsUp holds the numbers of a board against where each unit is (P55).
func checkBoardAddsUp(t *testing.T, w impl.TrunkWorld, seen map[string]int) {
	t.Helper()
	_, board := impl.DeskSay(w, "board")
	var now, given, got, waits, flies, dropped int
	if _, err := fmt.Sscanf(board, "now %d given %d got %d waits %d flies %d dropped %d\n", &now, &given, &got, &waits, &flies, &dropped); err != nil {
		t.Fatalf("%s: %v", board, err)
	}
	count := map[string]int{}
	for mark := 1; mark <= len(w.Given); mark++ {
		_, answer := impl.DeskSay(w, fmt.Sprint("where ", mark))
		where := strings.Fields(answer)[2]
		count[where]++
		seen["where "+where]++
	}
	if got+waits+flies+dropped != given || given != len(w.Given) || now != w.Now {
		t.Fatalf("%v\n%s does not add up", w, board)
	}
	if got != count["got"] || waits != count["waits"]+count["queued"] || flies != count["flies"] || dropped != count["dropped"] {
		t.Fatalf("%v\n%s: %v", w, board, count)
	}
}

// What is answered is new memory, and nothing is written into a world.
func TestDeskMemory(t *testing.T) {
	worlds := goodWorlds()
	worlds["bad"] = badWorlds()["one more got"]
	lines := []string{"", "board", "got", "where 1", "calm 0", "calm 1", "calm 1 1", "frob", "give 1 500 1 7", "give 1 5 1 7", "bring", "bring 1", "double", "lose", "clock", "tick 1", "tick 11", "fall 1", "fall 11", "rise 1", "off 1 500", "on 1 8", "jam 1 3", "want 11 7", "leave 11 2", "close 1 11", "abort 11 1"}
	for name, plain := range worlds {
		w := roomy(plain)
		for _, line := range lines {
			checkMemory(t, name+": "+line, func() []any {
				next, _ := impl.DeskSay(w, line)
				one, _ := impl.DeskEvent(w, line)
				other, _ := impl.DeskEvent(w, line)
				return []any{next, one, other, impl.DeskWords(line), impl.DeskWords(line)}
			}, w)
		}
	}
}
