package tests

import (
	"fmt"
	"math"
	"math/rand"
	"regexp"
	"slices"
	"strings"
	"testing"

	"loop.example/trunk/impl"
)

// plainNumber is a number as the document has it.
var plainNumber = regexp.MustCompile(`^(0|[1-9][0-9]{0,5})$`)

// slowNumber adds up decimals; -1, if a word is no number.
func slowNumber(word string) int {
	if !plainNumber.MatchString(word) {
		return -1
	}
	n := 0
	for _, digit := range []byte(word) {
		n = 10*n + int(digit-'0')
	}
	return n
}

// slowLines cuts a text byte by byte.
func slowLines(text string) []string {
	var out []string
	begin := 0
	for at := range len(text) {
		if text[at] == '\n' {
			out = append(out, text[begin:at])
			begin = at + 1
		}
	}
	if begin < len(text) {
		out = append(out, text[begin:])
	}
	return out
}

// slowCheck looks at all that the document tells of a configuration, the last code first.
func slowCheck(c impl.ConfTrunk) int {
	code := 0
	var names, ctxs []int
	for _, h := range c.Hosts {
		names = append(names, h.Name)
		if slices.Contains(c.Gates, h.Name) {
			code = 6
		}
	}
	for _, row := range c.Keys {
		ctxs = append(ctxs, row.Ctx)
	}
	if !rising(names, 1, 999, 3) {
		code = 5
	}
	for _, h := range c.Hosts {
		if !rising(h.Wish, 1, 9, 4) {
			code = 5
		}
		for _, ctx := range h.Wish {
			if !slices.Contains(ctxs, ctx) {
				code = 5
			}
		}
	}
	if len(c.Gates) == 0 || !rising(c.Gates, 1, 999, 2) {
		code = 4
	}
	if !slowKeyOk(c.Keys) {
		code = 3
	}
	return code
}

// slowConf is what is read so far; something that was said is a text.
type slowConf struct {
	conf impl.ConfTrunk
	said map[string]bool
}

// once says whether something was not said yet, and is then.
func (s *slowConf) once(what ...any) bool {
	text := fmt.Sprintln(what...)
	fresh := !s.said[text]
	s.said[text] = true
	return fresh
}

// line reads the words of a line; false, if it is at fault.
func (s *slowConf) line(words []string) bool {
	var ns []int
	for _, word := range words[1:] {
		ns = append(ns, slowNumber(word))
	}
	bad := slices.Index(ns, -1)
	switch words[0] {
	case "key":
		mode := map[string]int{"one": 1, "share": 2, "all": 3}
		if len(ns) != 4 || bad != 3 || mode[words[4]] == 0 || !s.once("key", ns[0]) {
			return false
		}
		s.conf.Keys = append(s.conf.Keys, impl.KeyRow{Ctx: ns[0], Low: ns[1], High: ns[2], Mode: mode[words[4]]})
		return true
	case "gate":
		s.conf.Gates = append(s.conf.Gates, ns...)
		return len(ns) == 1 && bad < 0 && s.once("gate", ns[0])
	case "server":
		if len(ns) == 0 || bad >= 0 || !s.once("server", ns[0]) {
			return false
		}
		for _, ctx := range ns[1:] {
			if !s.once("wish", ns[0], ctx) {
				return false
			}
		}
		slices.Sort(ns[1:])
		s.conf.Hosts = append(s.conf.Hosts, impl.TrunkWish{Name: ns[0], Wish: ns[1:]})
		return true
	}
	return false
}

func slowParse(text string) (impl.ConfTrunk, impl.ConfFault) {
	lines := slowLines(text)
	if len(text) > 4000 || len(lines) > 60 {
		return impl.ConfTrunk{}, impl.ConfFault{Code: 1}
	}
	s := slowConf{said: map[string]bool{}}
	for at, line := range lines {
		if words := slowWords(line); len(words) > 0 && !s.line(words) {
			return impl.ConfTrunk{}, impl.ConfFault{Line: at + 1, Code: 2}
		}
	}
	c := s.conf
	slices.SortStableFunc(c.Keys, func(a impl.KeyRow, b impl.KeyRow) int { return a.Ctx - b.Ctx })
	slices.Sort(c.Gates)
	slices.SortStableFunc(c.Hosts, func(a impl.TrunkWish, b impl.TrunkWish) int { return a.Name - b.Name })
	if code := slowCheck(c); code != 0 {
		return impl.ConfTrunk{}, impl.ConfFault{Code: code}
	}
	return c, impl.ConfFault{}
}

// confLinesOf are the lines of a configuration as they are printed.
func confLinesOf(c impl.ConfTrunk) []string {
	var out []string
	for _, row := range c.Keys {
		out = append(out, fmt.Sprintf("key %d %d %d %s", row.Ctx, row.Low, row.High, []string{"", "one", "share", "all"}[row.Mode]))
	}
	for _, name := range c.Gates {
		out = append(out, fmt.Sprintf("gate %d", name))
	}
	for _, h := range c.Hosts {
		line := fmt.Sprintf("server %d", h.Name)
		for _, ctx := range h.Wish {
			line += fmt.Sprintf(" %d", ctx)
		}
		out = append(out, line)
	}
	return out
}

// textOf has each line with a newline behind it.
func textOf(lines ...string) string {
	text := ""
	for _, line := range lines {
		text += line + "\n"
	}
	return text
}

// someConf is a configuration without a fault: keys of each mode, one and two gateways, none to three servers, with and without wishes.
func someConf(chance *rand.Rand) impl.ConfTrunk {
	var c impl.ConfTrunk
	var ctxs []int
	lows := chance.Perm(10)
	for ctx := 1; ctx <= 9; ctx++ {
		if len(c.Keys) < 4 && chance.Intn(3) == 0 {
			low := 100*lows[len(c.Keys)] + chance.Intn(50)
			c.Keys = append(c.Keys, impl.KeyRow{Ctx: ctx, Low: low, High: low + chance.Intn(50), Mode: 1 + chance.Intn(3)})
			ctxs = append(ctxs, ctx)
		}
	}
	names := chance.Perm(999)
	for range 1 + chance.Intn(2) {
		c.Gates = append(c.Gates, 1+names[len(c.Gates)])
	}
	for range chance.Intn(4) {
		h := impl.TrunkWish{Name: 1 + names[5+len(c.Hosts)]}
		for _, ctx := range ctxs {
			if chance.Intn(3) > 0 {
				h.Wish = append(h.Wish, ctx)
			}
		}
		c.Hosts = append(c.Hosts, h)
	}
	slices.Sort(c.Gates)
	slices.SortFunc(c.Hosts, func(a impl.TrunkWish, b impl.TrunkWish) int { return a.Name - b.Name })
	return c
}

// fullConf is the largest configuration, but for its names.
func fullConf() impl.ConfTrunk {
	return impl.ConfTrunk{
		Keys:  fourKeys(),
		Gates: []int{1, 999},
		Hosts: []impl.TrunkWish{{Name: 2, Wish: []int{1, 2, 4, 7}}, {Name: 500}, {Name: 998, Wish: []int{7}}},
	}
}

// checkParse holds ConfParse against the slow reading; P34: what is read without a fault may be begun with, and is read again as it is printed.
func checkParse(t *testing.T, text string) (impl.ConfTrunk, impl.ConfFault) {
	t.Helper()
	c, fault := impl.ConfParse(text)
	want, wantFault := slowParse(text)
	if fault != wantFault || !sameValue(c, want) {
		t.Fatalf("%q:\n%v %v, want\n%v %v", text, c, fault, want, wantFault)
	}
	if fault != (impl.ConfFault{}) {
		if !sameValue(c, impl.ConfTrunk{}) || fault.Code == 0 {
			t.Fatalf("%q: %v beside %v", text, c, fault)
		}
		return c, fault
	}
	if _, ok := impl.TrunkNew(c.Keys, c.Gates, c.Hosts); !ok || impl.ConfCheck(c) != 0 {
		t.Fatalf("%q:\n%v starts no node", text, c)
	}
	checkPrint(t, c)
	return c, fault
}

// checkPrint says that a configuration without a fault is printed line by line, and read again.
func checkPrint(t *testing.T, c impl.ConfTrunk) {
	t.Helper()
	text := impl.ConfPrint(c)
	if text != textOf(confLinesOf(c)...) {
		t.Fatalf("%v:\n%s", c, text)
	}
	if again, fault := impl.ConfParse(text); fault != (impl.ConfFault{}) || !sameValue(again, c) {
		t.Fatalf("%v:\n%s is read as %v %v", c, text, again, fault)
	}
}

func TestConfConstants(t *testing.T) {
	if impl.ConfMaxText != 4000 || impl.ConfMaxLines != 60 {
		t.Errorf("%d, %d", impl.ConfMaxText, impl.ConfMaxLines)
	}
}

func TestConfCheckOfGood(t *testing.T) {
	good := map[string]impl.ConfTrunk{
		"a gateway alone":       {Gates: []int{1}},
		"the last name":         {Gates: []int{999}},
		"two gateways":          {Gates: []int{998, 999}},
		"servers among them":    {Gates: []int{2, 4}, Hosts: []impl.TrunkWish{{Name: 1}, {Name: 3}, {Name: 999}}},
		"keys, but no servers":  {Keys: fourKeys(), Gates: []int{5}},
		"nobody wishes":         {Keys: fourKeys(), Gates: []int{5}, Hosts: []impl.TrunkWish{{Name: 6}}},
		"all that there may be": fullConf(),
	}
	for at, keys := range goodKeys() {
		good[fmt.Sprint("keys ", at)] = impl.ConfTrunk{Keys: keys, Gates: []int{1}}
	}
	for name, c := range good {
		if code := impl.ConfCheck(c); code != 0 || slowCheck(c) != 0 {
			t.Errorf("%s: %d", name, code)
		}
		checkPrint(t, c)
	}
	chance := rand.New(rand.NewSource(21))
	for range 400 {
		c := someConf(chance)
		if code := impl.ConfCheck(c); code != 0 || slowCheck(c) != 0 {
			t.Fatalf("%v: %d", c, code)
		}
		checkPrint(t, c)
	}
}

// badConfs are refused, each with one code alone.
func badConfs() map[string]struct {
	code int
	turn func(c *impl.ConfTrunk)
} {
	type bad = struct {
		code int
		turn func(c *impl.ConfTrunk)
	}
	gates := func(names ...int) func(c *impl.ConfTrunk) { return func(c *impl.ConfTrunk) { c.Gates = names } }
	hosts := func(names ...int) func(c *impl.ConfTrunk) {
		return func(c *impl.ConfTrunk) {
			c.Hosts = nil
			for _, name := range names {
				c.Hosts = append(c.Hosts, impl.TrunkWish{Name: name})
			}
		}
	}
	wish := func(at int, ctxs ...int) func(c *impl.ConfTrunk) {
		return func(c *impl.ConfTrunk) {
			if at < len(c.Hosts) {
				c.Hosts[at].Wish = ctxs
			}
		}
	}
	out := map[string]bad{
		"no gateways":                {4, gates()},
		"three gateways":             {4, gates(1, 3, 999)},
		"many gateways":              {4, gates(make([]int, 2000)...)},
		"gateways descend":           {4, gates(999, 1)},
		"a gateway twice":            {4, gates(1, 1)},
		"a gateway 0":                {4, gates(0)},
		"a gateway 0, and one more":  {4, gates(0, 1)},
		"a gateway below 0":          {4, gates(-1, 1)},
		"a gateway beyond":           {4, gates(1000)},
		"one beyond, and one more":   {4, gates(1, 1000)},
		"a gateway far beyond":       {4, gates(math.MaxInt)},
		"the least gateway":          {4, gates(math.MinInt)},
		"four servers":               {5, hosts(2, 3, 4, 5)},
		"servers descend":            {5, hosts(3, 2)},
		"the last servers descend":   {5, hosts(2, 5, 4)},
		"a server twice":             {5, hosts(2, 2)},
		"the last server twice":      {5, hosts(2, 3, 3)},
		"a server 0":                 {5, hosts(0)},
		"a server below 0":           {5, hosts(-5, 2)},
		"a server beyond":            {5, hosts(1000)},
		"a server far beyond":        {5, hosts(2, math.MaxInt)},
		"the least server":           {5, hosts(math.MinInt)},
		"wishes descend":             {5, wish(0, 2, 1)},
		"the last wishes descend":    {5, wish(2, 1, 2, 7, 4)},
		"a wish twice":               {5, wish(0, 4, 4)},
		"the last wish twice":        {5, wish(2, 1, 2, 4, 4)},
		"five wishes":                {5, wish(0, 1, 2, 3, 4, 7)},
		"five wishes of ranges":      {5, wish(1, 1, 2, 4, 7, 7)},
		"a wish of no range":         {5, wish(2, 3)},
		"the last wish of no range":  {5, wish(1, 1, 2, 9)},
		"a wish 0":                   {5, wish(0, 0)},
		"a wish below 0":             {5, wish(0, -1, 1)},
		"a wish beyond":              {5, wish(0, 10)},
		"a wish far beyond":          {5, wish(0, 1, math.MaxInt)},
		"the first name twice":       {6, gates(2)},
		"the last name twice":        {6, gates(998)},
		"a name twice, in between":   {6, gates(1, 500)},
		"a name twice, of the first": {6, gates(2, 3)},
		"both names twice":           {6, gates(2, 998)},
	}
	for name, keys := range badKeys() {
		out["keys: "+name] = bad{3, func(c *impl.ConfTrunk) { c.Keys = keys }}
	}
	return out
}

func TestConfCheckOfBad(t *testing.T) {
	for name, bad := range badConfs() {
		c := roomy(fullConf())
		bad.turn(&c)
		// Keys that are not ok have other ranges, too: 3 comes ahead of what that does to wishes.
		if code := impl.ConfCheck(c); code != bad.code || slowCheck(c) != bad.code {
			t.Errorf("%s: %d, want %d", name, code, bad.code)
		}
		if text := impl.ConfPrint(c); text != "" {
			t.Errorf("%s: %q", name, text)
		}
	}
}

// Of several codes the first one is told.
func TestConfCheckOfSeveral(t *testing.T) {
	count := map[int]int{}
	all := badConfs()
	for first, one := range all {
		for second, other := range all {
			c := roomy(fullConf())
			one.turn(&c)
			other.turn(&c)
			code := impl.ConfCheck(c)
			if code != slowCheck(c) || code > 0 && impl.ConfPrint(c) != "" {
				t.Errorf("%s, %s: %d", first, second, code)
			}
			count[code]++
		}
	}
	for code := 3; code <= 6; code++ {
		if count[code] == 0 {
			t.Errorf("%d is never told", code)
		}
	}
	c := impl.ConfTrunk{Keys: []impl.KeyRow{{}}, Hosts: []impl.TrunkWish{{}}}
	for at, turn := range []func(){
		func() {},
		func() { c.Keys = nil },
		func() { c.Gates = []int{7} },
		func() { c.Hosts[0].Name = 7 },
	} {
		if turn(); impl.ConfCheck(c) != 3+at {
			t.Errorf("%v: %d, want %d", c, impl.ConfCheck(c), 3+at)
		}
	}
}

// The fault of each text, told by hand; 0 is none.
func TestConfParseByHand(t *testing.T) {
	for text, fault := range map[string]impl.ConfFault{
		"gate 1":                            {},
		"gate 1\n":                          {},
		"\n\n gate 1  \n\n":                 {},
		"# a note\ngate 1# another\n":       {},
		"  gate   999#":                     {},
		"gate 1\ngate 2":                    {},
		"gate 2\n\ngate 1":                  {},
		"key 9 0 999 all\ngate 1":           {},
		"key 9 0 0 share\ngate 1":           {},
		"gate 1\nserver 2":                  {},
		"server 3\ngate 1\nserver 2":        {},
		"server 2 1\ngate 1\nkey 1 5 5 one": {},
		"server 2 4 1\nkey 4 2 3 one\ngate 1\nkey 1 5 5 one": {},
		"server 2\nserver 3 1\ngate 1\nkey 1 5 5 one":        {},
		"gate 1\nkey 1 5 5 one\nkey 2 6 6 all\nserver 2 2 1": {},
		"":                                 {Code: 4},
		"\n":                               {Code: 4},
		" \n\n# gate 1":                    {Code: 4},
		"#gate 1\n":                        {Code: 4},
		"key 1 0 9 one":                    {Code: 4},
		"gate":                             {Line: 1, Code: 2},
		"gate 1 2":                         {Line: 1, Code: 2},
		"gate 1\ngate 1":                   {Line: 2, Code: 2},
		"gate 1\n\ngate 1 ":                {Line: 3, Code: 2},
		"gate 0":                           {Code: 4},
		"gate 00":                          {Line: 1, Code: 2},
		"gate 01":                          {Line: 1, Code: 2},
		"gate 1000":                        {Code: 4},
		"gate 999999":                      {Code: 4},
		"gate 100000":                      {Code: 4},
		"gate 1000000":                     {Line: 1, Code: 2},
		"gate 0000001":                     {Line: 1, Code: 2},
		"gate 000001":                      {Line: 1, Code: 2},
		"gate +1":                          {Line: 1, Code: 2},
		"gate -1":                          {Line: 1, Code: 2},
		"gate -0":                          {Line: 1, Code: 2},
		"gate 1.0":                         {Line: 1, Code: 2},
		"gate 1_0":                         {Line: 1, Code: 2},
		"gate 0x1":                         {Line: 1, Code: 2},
		"gate 1e2":                         {Line: 1, Code: 2},
		"gate one":                         {Line: 1, Code: 2},
		"gate \u0661":                      {Line: 1, Code: 2},
		"gate 1\r\n":                       {Line: 1, Code: 2},
		"gate\t1":                          {Line: 1, Code: 2},
		"\tgate 1":                         {Line: 1, Code: 2},
		"gate\u00a01":                      {Line: 1, Code: 2},
		"Gate 1":                           {Line: 1, Code: 2},
		"gates 1":                          {Line: 1, Code: 2},
		"gat#e 1":                          {Line: 1, Code: 2},
		"gate# 1":                          {Line: 1, Code: 2},
		"gate #1":                          {Line: 1, Code: 2},
		"1":                                {Line: 1, Code: 2},
		"?":                                {Line: 1, Code: 2},
		"gate 1\nabcdefghijklm":            {Line: 2, Code: 2},
		"gate 1 # abcdefghijklm":           {},
		"gate 1\nserver 2 1 2 3 4 5":       {Line: 2, Code: 2},
		"gate 1\ngate 2\ngate 3":           {Code: 4},
		"gate 3\ngate 2\ngate 1\ngate 3":   {Line: 4, Code: 2},
		"key 1 0 9\ngate 1":                {Line: 1, Code: 2},
		"key 1 0 9 one 1\ngate 1":          {Line: 1, Code: 2},
		"key 1 0 one\ngate 1":              {Line: 1, Code: 2},
		"key one 0 9 1\ngate 1":            {Line: 1, Code: 2},
		"key\ngate 1":                      {Line: 1, Code: 2},
		"key 1 0 9 One\ngate 1":            {Line: 1, Code: 2},
		"key 1 0 9 1\ngate 1":              {Line: 1, Code: 2},
		"key 1 0 9 any\ngate 1":            {Line: 1, Code: 2},
		"key 01 0 9 one\ngate 1":           {Line: 1, Code: 2},
		"key 1 00 9 one\ngate 1":           {Line: 1, Code: 2},
		"key 1 0 09 one\ngate 1":           {Line: 1, Code: 2},
		"key 1000000 0 9 one\ngate 1":      {Line: 1, Code: 2},
		"key 1 1000000 9 one\ngate 1":      {Line: 1, Code: 2},
		"key 1 0 1000000 one\ngate 1":      {Line: 1, Code: 2},
		"key 1 -1 9 one\ngate 1":           {Line: 1, Code: 2},
		"key 0 0 9 one\ngate 1":            {Code: 3},
		"key 10 0 9 one\ngate 1":           {Code: 3},
		"key 999999 0 9 one\ngate 1":       {Code: 3},
		"key 1 0 999999 one\ngate 1":       {Code: 3},
		"key 1 9 5 one\ngate 1":            {Code: 3},
		"key 1 9 5 one":                    {Code: 3},
		"key 1 0 1000 one\ngate 1":         {Code: 3},
		"key 2 0 9 one\nkey 1 9 9 one":     {Code: 3},
		"key 1 0 9 one\nkey 1 0 9 one":     {Line: 2, Code: 2},
		"key 1 0 9 one\nkey 1 20 29 share": {Line: 2, Code: 2},
		"key 1 9 5 one\nkey 1 20 29 share": {Line: 2, Code: 2},
		"key 1 0 0 one\nkey 2 1 1 one\nkey 3 2 2 one\nkey 4 3 3 one\nkey 5 4 4 one\ngate 1": {Code: 3},
		"key 1 0 0 one\nkey 2 1 1 one\nkey 3 2 2 one\nkey 4 3 3 one\ngate 1":                {},
		"server\ngate 1":                                 {Line: 1, Code: 2},
		"server x\ngate 1":                               {Line: 1, Code: 2},
		"server 2\nserver 2\ngate 1":                     {Line: 2, Code: 2},
		"server 2\nkey 1 0 9 one\nserver 2 1\ngate 1":    {Line: 3, Code: 2},
		"key 1 0 9 one\nserver 2 1 1\ngate 1":            {Line: 2, Code: 2},
		"key 1 0 9 one\nserver 2 1 x\ngate 1":            {Line: 2, Code: 2},
		"key 1 0 9 one\nserver 2 01\ngate 1":             {Line: 2, Code: 2},
		"key 1 0 9 one\nserver 2 1000000\ngate 1":        {Line: 2, Code: 2},
		"key 1 0 9 one\nserver 2 999999\ngate 1":         {Code: 5},
		"key 1 0 9 one\nserver 2 5 1 5\ngate 1":          {Line: 2, Code: 2},
		"gate 1\nserver 2 1":                             {Code: 5},
		"gate 1\nserver 2 0":                             {Code: 5},
		"gate 1\nserver 0":                               {Code: 5},
		"gate 1\nserver 1000":                            {Code: 5},
		"gate 1\nserver 2\nserver 3\nserver 4\nserver 5": {Code: 5},
		"gate 1\nserver 2\nserver 3\nserver 4":           {},
		"gate 1\nserver 1":                               {Code: 6},
		"server 7\ngate 1\ngate 7":                       {Code: 6},
		"server 1\nserver 7":                             {Code: 4},
		// A gateway, a key and a server of one number are three things.
		"key 1 0 9 one\ngate 1\nserver 2 1": {},
		// Several at once: the first line, and ahead of what the whole text has.
		"gate 1\nkey 1 9 5 one\nfrob\ngate 1":           {Line: 3, Code: 2},
		"frob\nfrob":                                    {Line: 1, Code: 2},
		"\n\nfrob\ngate":                                {Line: 3, Code: 2},
		"gate 0\nkey 0 0 9 one\nserver 0 0":             {Code: 3},
		"gate 0\nkey 1 0 9 one\nserver 0 0":             {Code: 4},
		"gate 1\nserver 1\nserver 2 5":                  {Code: 5},
		"gate 1\ngate 2\ngate 3\nserver 2\nserver 2\nx": {Line: 5, Code: 2},
	} {
		if _, got := checkParse(t, text); got != fault {
			t.Errorf("%q: %v, want %v", text, got, fault)
		}
	}
}

// What is read is in order, whatever order it stood in.
func TestConfParseInOrder(t *testing.T) {
	c, fault := checkParse(t, " server 998 7\ngate 999 # the last one\n\nkey 7 300 399 one\nserver 2 7 2 4 1\n   key 2   100 199 share#\nkey 4 200 299 all\ngate 1\nserver 500\nkey 1 0 99 one")
	if fault != (impl.ConfFault{}) || !sameValue(c, fullConf()) {
		t.Errorf("%v %v", c, fault)
	}
	want := "key 1 0 99 one\nkey 2 100 199 share\nkey 4 200 299 all\nkey 7 300 399 one\ngate 1\ngate 999\nserver 2 1 2 4 7\nserver 500\nserver 998 7\n"
	if got := impl.ConfPrint(c); got != want {
		t.Errorf("%s", got)
	}
}

// How many bytes and lines there may be, and that this is asked ahead of all else.
func TestConfParseLong(t *testing.T) {
	good := "gate 1\n"
	for name, c := range map[string]struct {
		text  string
		fault impl.ConfFault
	}{
		"ConfMaxText":                       {good + strings.Repeat(" ", 4000-len(good)), impl.ConfFault{}},
		"ConfMaxText, in a note":            {good + "#" + strings.Repeat("x", 3999-len(good)), impl.ConfFault{}},
		"one byte more":                     {good + strings.Repeat(" ", 4001-len(good)), impl.ConfFault{Code: 1}},
		"one newline more":                  {good + strings.Repeat(" ", 3999-len(good)) + "\n", impl.ConfFault{}},
		"one newline more than ConfMaxText": {good + strings.Repeat(" ", 4000-len(good)) + "\n", impl.ConfFault{Code: 1}},
		"ConfMaxLines":                      {good + strings.Repeat("\n", 59), impl.ConfFault{}},
		"ConfMaxLines, the last one cut":    {good + strings.Repeat("\n", 58) + "gate 2", impl.ConfFault{}},
		"one line more":                     {good + strings.Repeat("\n", 60), impl.ConfFault{Code: 1}},
		"one line more, cut":                {good + strings.Repeat("\n", 59) + " ", impl.ConfFault{Code: 1}},
		"notes":                             {strings.Repeat("# x\n", 59) + good, impl.ConfFault{}},
		"a note more":                       {strings.Repeat("# x\n", 60) + good, impl.ConfFault{Code: 1}},
		"empty lines":                       {strings.Repeat("\n", 60), impl.ConfFault{Code: 4}},
		"an empty line more":                {strings.Repeat("\n", 61), impl.ConfFault{Code: 1}},
		"a fault in the last line":          {strings.Repeat("\n", 59) + "frob", impl.ConfFault{Line: 60, Code: 2}},
		"a fault in the first line":         {"frob\n" + strings.Repeat("\n", 59), impl.ConfFault{Line: 1, Code: 2}},
		"and a line more":                   {"frob\n" + strings.Repeat("\n", 60), impl.ConfFault{Code: 1}},
		"a long fault":                      {strings.Repeat("x", 4000), impl.ConfFault{Line: 1, Code: 2}},
		"a longer one":                      {strings.Repeat("x", 4001), impl.ConfFault{Code: 1}},
		"far too long":                      {strings.Repeat("gate 1\n", 100000), impl.ConfFault{Code: 1}},
	} {
		if _, got := checkParse(t, c.text); got != c.fault {
			t.Errorf("%s: %v, want %v", name, got, c.fault)
		}
	}
}

// dressed is a text of these lines in another order, with blanks, notes and empty lines among them.
func dressed(chance *rand.Rand, lines []string) string {
	text := ""
	for _, at := range chance.Perm(len(lines)) {
		for chance.Intn(4) == 0 {
			text += []string{"", " ", "# gate 7", "  #", "###"}[chance.Intn(5)] + "\n"
		}
		words := strings.Fields(lines[at])
		text += strings.Repeat(" ", chance.Intn(3)) + strings.Join(words, strings.Repeat(" ", 1+chance.Intn(3)))
		text += []string{"", "", " ", "#", " # frob 1 2 3 4 5 6 7 8 9", "#abcdefghijklmnop"}[chance.Intn(6)] + "\n"
	}
	if chance.Intn(2) == 0 {
		text = strings.TrimSuffix(text, "\n")
	}
	return text
}

// P34: the order of lines does not matter, nor do blanks and notes.
func TestConfParseInAnyOrder(t *testing.T) {
	chance := rand.New(rand.NewSource(34))
	modes := map[int]int{}
	for range 500 {
		c := someConf(chance)
		for _, row := range c.Keys {
			modes[row.Mode]++
		}
		for range 3 {
			text := dressed(chance, confLinesOf(c))
			if got, fault := checkParse(t, text); fault != (impl.ConfFault{}) || !sameValue(got, c) {
				t.Fatalf("%q:\n%v %v, want\n%v", text, got, fault, c)
			}
		}
	}
	for mode := 1; mode <= 3; mode++ {
		if modes[mode] < 50 {
			t.Errorf("mode %d: %d keys", mode, modes[mode])
		}
	}
}

// Texts in which one or a few bytes or lines are turned, held against the slow reading.
func TestConfParseTurned(t *testing.T) {
	chance := rand.New(rand.NewSource(35))
	count := map[int]int{}
	for range 6000 {
		c := someConf(chance)
		if len(c.Hosts) > 0 && chance.Intn(20) == 0 {
			c.Gates[0] = c.Hosts[0].Name
		}
		lines := confLinesOf(c)
		for range chance.Intn(3) {
			switch at := chance.Intn(len(lines)); chance.Intn(3) {
			case 0:
				lines = append(lines, lines[at])
			case 1:
				lines = slices.Delete(lines, at, at+1)
				lines = append(lines, []string{"frob", "gate 1", "server 2 1", "key 3 0 999 all", "key 1 7 7 one"}[chance.Intn(5)])
			case 2:
				words := strings.Fields(lines[at])
				words[chance.Intn(len(words))] = []string{"", "0", "00", "1", "01", "7", "9", "10", "999", "1000", "999999", "1000000", "one", "#", "-1", "gate", "key"}[chance.Intn(17)]
				lines[at] = strings.Join(words, " ")
			}
		}
		text := dressed(chance, lines)
		if len(text) > 0 && chance.Intn(3) == 0 {
			turned := []byte(text)
			turned[chance.Intn(len(turned))] = []byte("0123456789 \n\n#agk\x00\xff")[chance.Intn(19)]
			text = string(turned)
		}
		_, fault := checkParse(t, text)
		count[fault.Code]++
	}
	for _, code := range []int{0, 2, 3, 4, 5, 6} {
		if count[code] < 20 {
			t.Errorf("%d: %d times", code, count[code])
		}
	}
}

// Each key, gateway, server and wish that is said twice is at fault where it stands again.
func TestConfParseTwice(t *testing.T) {
	lines := confLinesOf(fullConf())
	for at, line := range lines {
		for behind := at + 1; behind <= len(lines); behind++ {
			all := slices.Insert(slices.Clone(lines), behind, line)
			if _, fault := checkParse(t, textOf(all...)); fault != (impl.ConfFault{Line: behind + 1, Code: 2}) {
				t.Errorf("%s behind %d: %v", line, behind, fault)
			}
		}
	}
	for _, line := range []string{"key 4 900 909 one", "gate 999", "server 500 1", "server 3 4 4", "server 3 1 2 1"} {
		if _, fault := checkParse(t, textOf(append(slices.Clone(lines), line)...)); fault != (impl.ConfFault{Line: 10, Code: 2}) {
			t.Errorf("%s: %v", line, fault)
		}
	}
}

// What is read is new memory, and nothing is written into a configuration.
func TestConfMemory(t *testing.T) {
	confs := map[string]impl.ConfTrunk{"full": fullConf(), "small": {Gates: []int{3}}, "none": {}}
	for name, bad := range badConfs() {
		c := roomy(fullConf())
		bad.turn(&c)
		confs[name] = c
	}
	for name, plain := range confs {
		c := roomy(plain)
		checkMemory(t, name, func() []any {
			impl.ConfCheck(c)
			text := impl.ConfPrint(c)
			one, _ := impl.ConfParse(text)
			other, _ := impl.ConfParse(text)
			return []any{one, other}
		}, c)
	}
}
