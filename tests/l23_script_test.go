package tests

import (
	"fmt"
	"math/rand"
	"slices"
	"strings"
	"testing"

	"loop.example/trunk/impl"
)

// slowRun says line by line, and counts what is answered.
func slowRun(conf string, script string) string {
	c, fault := slowParse(conf)
	if fault != (impl.ConfFault{}) {
		return fmt.Sprintf("fault %d %d\n", fault.Line, fault.Code)
	}
	if len(script) > 8000 {
		return "long\n"
	}
	w, _ := impl.TrunkNew(c.Keys, c.Gates, c.Hosts)
	out := ""
	for at, line := range slowLines(script) {
		if at >= 60 || len(out) > 20000 {
			return out + "full\n"
		}
		next, answer := slowSay(w, line)
		w = next
		out += answer
	}
	return out
}

// checkRun holds DeskRun against the slow reading.
func checkRun(t *testing.T, conf string, script string) string {
	t.Helper()
	got := impl.DeskRun(conf, script)
	if want := slowRun(conf, script); got != want {
		t.Fatalf("%s\n%s\nis answered by\n%s\nwant\n%s", conf, script, got, want)
	}
	return got
}

const smallConf = "key 1 0 99 one\ngate 1\nserver 11 1\n"

// talk is a configuration by chance, and a scribe of its names.
func talk(chance *rand.Rand) (string, *scribe) {
	w := someWorld(chance)
	c := impl.ConfTrunk{Keys: w.Gates[0].Book.Keys}
	for _, g := range w.Gates {
		c.Gates = append(c.Gates, g.Name)
	}
	for _, h := range w.Hosts {
		c.Hosts = append(c.Hosts, impl.TrunkWish{Name: h.Name, Wish: h.Book.Wish})
	}
	return impl.ConfPrint(c), scribeOf(chance, w)
}

// script is so many lines by chance.
func (s *scribe) script(count int) []string {
	var lines []string
	if s.chance.Intn(3) > 0 && count > 0 {
		lines = append(lines, "calm 5")
	}
	for len(lines) < count {
		lines = append(lines, s.line())
	}
	return lines
}

func TestDeskScriptConstants(t *testing.T) {
	if got := []int{impl.DeskMaxScript, impl.DeskMaxLines, impl.DeskMaxOut}; !slices.Equal(got, []int{8000, 60, 20000}) {
		t.Errorf("%v", got)
	}
}

// The example of chapter 20, said as a script.
func TestDeskRunExample(t *testing.T) {
	got := checkRun(t, smallConf, `calm 3
board
give 1 7 1 9
leave 11 1
bring
bring
bring
bring # the fourth
bring
bring 0
give 1 8 1 9

board
`)
	want := `ok
now 3 given 0 got 0 waits 0 flies 0 dropped 0
gate 1
range 1 active 11
ok
ok
ok
ok
ok
ok
ok
ok
ok
now 3 given 2 got 1 waits 1 flies 0 dropped 0
gate 1
range 1 pending waits 1 left 5
`
	if got != want {
		t.Errorf("%s", got)
	}
}

// Each kind of answer, told by hand.
func TestDeskRunByHand(t *testing.T) {
	for script, want := range map[string]string{
		"":                               "",
		"\n":                             "",
		"\n\n# so\n   \n":                "",
		"clock":                          "ok\n",
		"clock\n":                        "ok\n",
		"clock\n\n":                      "ok\n",
		"\n\nclock\n# so\nfrob":          "ok\n? frob\n",
		"frob\nclock # ok\n  nicate 1 2": "? frob\nok\n? nicate\n",
		"got":                            "",
		"where 1\nwhere 0\nwhere 01":     "unit 1 none\nunit 0 none\n? where\n",
		"board":                          "now 0 given 0 got 0 waits 0 flies 0 dropped 0\ngate 1\nrange 1 down\n",
		"fall 1\nboard":                  "ok\nnow 0 given 0 got 0 waits 0 flies 0 dropped 0\ngate 1 down\n",
		"clock\nboard\nclock\n":          "ok\nnow 1 given 0 got 0 waits 0 flies 0 dropped 0\ngate 1\nrange 1 down\nok\n",
		"calm 0\ncalm 11\ncalm 1 2\nclock\nboard":                                "ok\n? calm\n? calm\nok\nnow 1 given 0 got 0 waits 0 flies 0 dropped 0\ngate 1\nrange 1 down\n",
		"give 1 5 3 7\nwhere 1\ngive 1 100 3 7\nwhere 2":                         "ok\nunit 1 dropped nobody\nok\nunit 2 dropped nokey\n",
		"calm 4\ngive 1 5 3 7\nwhere 1\nfall 11\nwhere 1\nabort 1 11\nwhere 1":   "ok\nok\nunit 1 flies\nok\nunit 1 flies\nok\nunit 1 dropped ended\n",
		"calm 4\nfall 11\nrise 11\ncalm 10\ngive 1 5 3 7\ncalm 1\ngot":           "ok\nok\nok\nok\nok\nok\nunit 1 by 11 life 1\n",
		"calm 4\ngive 1 5 3 7\ngive 1 6 3 7\ncalm 1\ngot\nwhere 1\nclock\nclose": "ok\nok\nok\nok\nunit 1 by 11 life 0\nunit 2 by 11 life 0\nunit 1 got\nok\n? close\n",
		"calm 4\r\nclock\r":   "? calm\n? clock\r\n",
		"abcdefghijklm\n\xff": "? ?\n? \xff\n",
	} {
		if got := checkRun(t, smallConf, script); got != want {
			t.Errorf("%q:\n%s, want\n%s", script, got, want)
		}
	}
}

// P38: what a faulty configuration answers is its fault alone, whatever the script is.
func TestDeskRunOfFaults(t *testing.T) {
	for conf, want := range map[string]string{
		"":                              "fault 0 4\n",
		"gate 0\n":                      "fault 0 4\n",
		"frob":                          "fault 1 2\n",
		"gate 1\n\n\ngate 01":           "fault 4 2\n",
		"gate 1\nkey 1 5 4 one":         "fault 0 3\n",
		"gate 1\nserver 2 1":            "fault 0 5\n",
		"gate 1\nserver 1":              "fault 0 6\n",
		strings.Repeat("\n", 61):        "fault 0 1\n",
		strings.Repeat("\n", 59) + "x":  "fault 60 2\n",
		strings.Repeat("frob ", 801):    "fault 0 1\n",
		smallConf + "server 11":         "fault 4 2\n",
		smallConf + "server 1":          "fault 0 6\n",
		smallConf + "key 1 100 199 all": "fault 4 2\n",
	} {
		for _, script := range []string{"", "board\n", "frob", strings.Repeat("x", 8001), strings.Repeat("\n", 61)} {
			if got := checkRun(t, conf, script); got != want {
				t.Errorf("%q: %q, want %q", conf, got, want)
			}
		}
	}
}

func TestDeskRunOfBytes(t *testing.T) {
	for name, c := range map[string]struct{ script, want string }{
		"DeskMaxScript":                {"clock #" + strings.Repeat("x", 7993), "ok\n"},
		"one byte more":                {"clock #" + strings.Repeat("x", 7994), "long\n"},
		"DeskMaxScript, in blanks":     {"clock" + strings.Repeat(" ", 7995), "ok\n"},
		"DeskMaxScript with a newline": {"clock" + strings.Repeat(" ", 7994) + "\n", "ok\n"},
		"one newline more":             {"clock" + strings.Repeat(" ", 7995) + "\n", "long\n"},
		"a long word":                  {strings.Repeat("x", 8000), "? ?\n"},
		"a longer one":                 {strings.Repeat("x", 8001), "long\n"},
		"long, and too many lines":     {strings.Repeat("\n", 8001), "long\n"},
		"too many lines":               {strings.Repeat("\n", 8000), "full\n"},
		"far too long":                 {strings.Repeat("clock\n", 100000), "long\n"},
	} {
		if got := checkRun(t, smallConf, c.script); got != c.want {
			t.Errorf("%s: %q, want %q", name, got, c.want)
		}
	}
}

// P38: DeskMaxLines lines are said, whatever they are; one more is told `full`, and so are many more.
func TestDeskRunOfLines(t *testing.T) {
	for line, answer := range map[string]string{"clock": "ok\n", "": "", "# so": "", "frob": "? frob\n", "where 3": "unit 3 none\n"} {
		sixty, said := strings.Repeat(line+"\n", 60), strings.Repeat(answer, 60)
		for script, want := range map[string]string{
			sixty:                             said,
			sixty[:len(sixty)-1] + " ":        said,
			sixty[:len(sixty)-1]:              said,
			sixty + "\n":                      said + "full\n",
			sixty + " ":                       said + "full\n",
			sixty + "clock":                   said + "full\n",
			sixty + "# so\n":                  said + "full\n",
			sixty + sixty:                     said + "full\n",
			sixty[:len(sixty)-1] + "#\nboard": said + "full\n",
		} {
			if line == "" && script == sixty[:len(sixty)-1] {
				// This is one line less.
				continue
			}
			if got := checkRun(t, smallConf, script); got != want {
				t.Errorf("%q:\n%q", script, got)
			}
		}
	}
}

// P38: what is answered is counted ahead of each line: DeskMaxOut bytes are not too many, one more is.
func TestDeskRunOfAnswers(t *testing.T) {
	conf := "key 2 0 99 all\nkey 3 100 199 all\nkey 4 200 299 all\nkey 5 300 399 all\ngate 1\ngate 900\nserver 997 2 3 4 5\nserver 998 2 3 4 5\nserver 999 2 3 4 5\n"
	lines := []string{"calm 5"}
	for range 3 {
		for range 6 {
			lines = append(lines, "give 1 5 3 7")
		}
		lines = append(lines, "calm 2")
	}
	run := func(lines []string) string { return impl.DeskRun(conf, textOf(lines...)) }
	room := func() int { return 20000 - len(run(lines)) }
	// Ever smaller answers, and at last question marks, each with a blank, a word and a newline.
	for _, line := range []string{"got", "board", "where 999999"} {
		for {
			longer := append(slices.Clone(lines), line)
			if len(run(longer)) > 20000-8 {
				break
			}
			lines = longer
		}
	}
	lines = append(lines, strings.Repeat("x", room()/2-3))
	lines = append(lines, strings.Repeat("x", room()-3))
	if room() != 0 || len(lines) > 57 {
		t.Fatalf("%d bytes of room, %d lines", room(), len(lines))
	}
	said := run(lines)
	lines[len(lines)-1] += "x"
	more := run(lines)
	if len(said) != 20000 || len(more) != 20001 || strings.Contains(said+more, "full") {
		t.Fatalf("%d and %d bytes", len(said), len(more))
	}
	for _, line := range []string{"clock", "", "# so", "board", "frob"} {
		if got := checkRun(t, conf, textOf(append(slices.Clone(lines), line)...)); got != more+"full\n" {
			t.Errorf("%q behind %d bytes: %q", line, len(more), got[len(got)-40:])
		}
	}
	lines[len(lines)-1] = lines[len(lines)-1][1:]
	for line, answer := range map[string]string{"clock": "ok\n", "": "", "# so": "", "frob": "? frob\n"} {
		full := "full\n"
		if answer == "" {
			full = "ok\n"
		}
		script := textOf(append(slices.Clone(lines), line, "clock")...)
		if got := checkRun(t, conf, script); got != said+answer+full {
			t.Errorf("%q behind %d bytes: %q", line, len(said), got[len(got)-40:])
		}
	}
	// What goes beyond is told whole.
	if got := checkRun(t, conf, textOf(append(slices.Clone(lines), "got", "got")...)); len(got) < 21000 || !strings.HasSuffix(got, "life 0\nfull\n") {
		t.Errorf("%d bytes", len(got))
	}
}

// Scripts by chance, held against the slow reading. P36: what the beginning of a script has answered stays answered.
func TestDeskRunBeginnings(t *testing.T) {
	words := map[string]int{}
	for seed := range int64(60) {
		chance := rand.New(rand.NewSource(2300 + seed))
		conf, s := talk(chance)
		lines := s.script(10 + chance.Intn(56))
		script := textOf(lines...)
		all := checkRun(t, conf, script)
		// A last line that is empty is none, without its newline.
		if cut := strings.TrimSuffix(script, "\n"); !strings.HasSuffix(cut, "\n") && impl.DeskRun(conf, cut) != all {
			t.Fatalf("%s\n%s\nwithout a last newline", conf, script)
		}
		ahead := ""
		for count := range len(lines) + 1 {
			said := impl.DeskRun(conf, textOf(lines[:count]...))
			if !strings.HasPrefix(all, said) || !strings.HasPrefix(said, ahead) {
				t.Fatalf("%s\n%s\n%d lines are answered by\n%s, all by\n%s", conf, script, count, said, all)
			}
			ahead = said
		}
		for _, word := range strings.Fields(all) {
			words[word]++
		}
	}
	for _, word := range []string{"ok", "?", "unit", "got", "flies", "dropped", "now", "life", "active", "full"} {
		if words[word] < 5 {
			t.Errorf("%s: %d times", word, words[word])
		}
	}
}

// P36 also where what is answered is too much, or the lines are too many.
func TestDeskRunBeginningsOfFull(t *testing.T) {
	conf := "key 2 0 999 all\ngate 1\nserver 997 2\nserver 998 2\nserver 999 2\n"
	lines := []string{"calm 5"}
	for range 20 {
		lines = append(lines, "give 1 5 3 7", "calm 1")
	}
	for range 24 {
		lines = append(lines, "got")
	}
	all := checkRun(t, conf, textOf(lines...))
	if !strings.HasSuffix(all, "\nfull\n") {
		t.Fatalf("%d bytes", len(all))
	}
	for count := range len(lines) {
		if said := impl.DeskRun(conf, textOf(lines[:count]...)); !strings.HasPrefix(all, said) {
			t.Fatalf("%d lines are answered by\n%s", count, said)
		}
	}
}

// P37: a script that ends with calm ends with all in its place.
func TestDeskRunEndsWithCalm(t *testing.T) {
	given := 0
	for seed := range int64(80) {
		chance := rand.New(rand.NewSource(3700 + seed))
		conf, s := talk(chance)
		lines := s.script(chance.Intn(21))
		for _, name := range slices.Concat(s.gates, s.hosts) {
			lines = append(lines, fmt.Sprint("rise ", name))
		}
		for range 6 {
			lines = append(lines, "calm 10")
		}
		ahead := impl.DeskRun(conf, textOf(lines...))
		said := impl.DeskRun(conf, textOf(append(lines, "board")...))
		board := strings.TrimPrefix(said, ahead)
		var now, units, got, waits, flies, dropped int
		if _, err := fmt.Sscanf(board, "now %d given %d got %d waits %d flies %d dropped %d\n", &now, &units, &got, &waits, &flies, &dropped); err != nil {
			t.Fatalf("%s: %v", board, err)
		}
		if waits != 0 || flies != 0 || strings.Contains(board, "pending") || strings.Contains(board, "gate 1 down") || now < 60 || got+dropped != units {
			t.Fatalf("%s\n%s\nends with\n%s", conf, textOf(lines...), board)
		}
		given += units
	}
	if given < 100 {
		t.Errorf("%d units were given", given)
	}
}

// A script of each word, with calm in between, and what is asked behind it: what each unit became is told.
func TestDeskRunOfAll(t *testing.T) {
	got := checkRun(t, textOf(confLinesOf(fullConf())...), `# two gateways, three servers
calm 5
give 1 5 1 0      # a range that one serves
give 999 105 2 255
give 1 205 3 9    # all
give 999 305 4 9
give 1 400 4 9
calm 2
off 999 106
give 999 106 1 1
on 999 106
jam 1 3
leave 998 7
calm 1
give 1 305 1 1
want 500 7
want 998 7
close 1 2
abort 998 999
tick 1
clock
double
lose 1
bring 0
fall 2
rise 2
calm 10
calm 10 1
calm 10
got
where 6
where 7
board
`)
	want := strings.Repeat("ok\n", 28) + `unit 1 by 2 life 0
unit 2 by 2 life 0
unit 3 by 2 life 0
unit 4 by 998 life 0
unit 7 by 2 life 0
unit 6 dropped off
unit 7 got
now 39 given 7 got 5 waits 0 flies 0 dropped 2
gate 1
range 1 active 2
range 2 active 2
range 4 active 2
range 7 active 500
gate 999
range 1 active 2
range 2 active 2
range 4 active 2
range 7 active 998
`
	if got != want {
		t.Errorf("%s", got)
	}
}

// P56: notes and blanks do not show.
func TestDeskRunNotesAndBlanks(t *testing.T) {
	for seed := range int64(60) {
		chance := rand.New(rand.NewSource(5600 + seed))
		conf, s := talk(chance)
		lines := s.script(1 + chance.Intn(64))
		var dressed []string
		for _, line := range lines {
			note := []string{"#", "# so", " # give 1 2 3 4 5 6 7 8 9", "## abcdefghijklmnopqrst", "#\xff\x00"}[chance.Intn(5)]
			dressed = append(dressed, strings.Repeat(" ", chance.Intn(40))+line+note)
		}
		script, other := textOf(lines...), textOf(dressed...)
		if len(other) > 8000 {
			t.Fatalf("%d bytes", len(other))
		}
		if got, want := impl.DeskRun(conf, other), impl.DeskRun(conf, script); got != want {
			t.Fatalf("%s\n%s\nis answered by\n%s, want\n%s", conf, other, got, want)
		}
	}
	script := strings.Repeat("clock\n", 60)
	fits := script[:len(script)-1] + " #" + strings.Repeat("x", 8000-len(script)-1)
	if len(fits) != 8000 || checkRun(t, smallConf, fits) != strings.Repeat("ok\n", 60) || checkRun(t, smallConf, " "+fits) != "long\n" {
		t.Errorf("%d bytes", len(fits))
	}
}
