package tests

import (
	"bytes"
	"math"
	"math/big"
	"math/rand"
	"slices"
	"testing"

	"loop.example/trunk/impl"
)

// grain is a field of a cookie, and what it may be.
type grain struct {
	name  string
	in    reach
	place func(c *impl.AscCookie) *int
}

// grains are all fields but Mac, in order.
var grains = []grain{
	{"Me", short, func(c *impl.AscCookie) *int { return &c.Me }},
	{"Peer", short, func(c *impl.AscCookie) *int { return &c.Peer }},
	{"Tag", reach{1, 4294967295}, func(c *impl.AscCookie) *int { return &c.Tag }},
	{"PeerTag", reach{1, 4294967295}, func(c *impl.AscCookie) *int { return &c.PeerTag }},
	{"Tsn", long, func(c *impl.AscCookie) *int { return &c.Tsn }},
	{"PeerTsn", long, func(c *impl.AscCookie) *int { return &c.PeerTsn }},
	{"Streams", reach{1, 8}, func(c *impl.AscCookie) *int { return &c.Streams }},
	{"Made", reach{0, 1000000}, func(c *impl.AscCookie) *int { return &c.Made }},
	{"OldTag", long, func(c *impl.AscCookie) *int { return &c.OldTag }},
	{"OldPeerTag", long, func(c *impl.AscCookie) *int { return &c.OldPeerTag }},
}

// wide are numbers in and out of all limits.
var wide = []int{
	math.MinInt, -4294967296, -4294967295, -2147483648, -2147483647, -65536, -2, -1, 0, 1, 2, 7, 8, 9, 65534, 65535, 65536, 999999, 1000000, 1000001,
	2147483645, 2147483646, 2147483647, 2147483648, 4294967293, 4294967294, 4294967295, 4294967296, 1000000000000000000, math.MaxInt,
}

// slowMac takes in numbers of any size.
func slowMac(secret int, c impl.AscCookie) int {
	by := big.NewInt(2147483647)
	x := big.NewInt(0)
	takes := func(n int) {
		f := new(big.Int).Mod(big.NewInt(int64(n)), by)
		x.Mul(x, big.NewInt(48271))
		x.Add(x, f)
		x.Add(x, big.NewInt(1))
		x.Mod(x, by)
	}
	takes(secret)
	for _, g := range grains {
		takes(*g.place(&c))
	}
	takes(secret)
	return int(x.Int64())
}

func slowFits(c impl.AscCookie) bool {
	for _, g := range grains {
		if !g.in.has(*g.place(&c)) {
			return false
		}
	}
	return true
}

// rawCookie writes whatever can be written in four bytes each, with that Mac.
func rawCookie(c impl.AscCookie, mac int) []byte {
	var b []byte
	for _, g := range grains {
		b = append(b, bigFirst(*g.place(&c), 4)...)
	}
	return append(b, bigFirst(mac, 4)...)
}

// goodCookies fit: each field at both ends, and some by chance, always the same ones.
func goodCookies() []impl.AscCookie {
	plain := impl.AscCookie{Me: 1, Peer: 3, Tag: 5, PeerTag: 6, Tsn: 7, PeerTsn: 8, Streams: 2, Made: 20}
	list := []impl.AscCookie{plain}
	var least, most impl.AscCookie
	for _, g := range grains {
		*g.place(&least), *g.place(&most) = g.in.from, g.in.to
		for _, n := range []int{g.in.from, g.in.to} {
			c := plain
			*g.place(&c) = n
			list = append(list, c)
		}
	}
	list = append(list, least, most)
	chance := rand.New(rand.NewSource(51))
	for range 100 {
		var c impl.AscCookie
		for _, g := range grains {
			*g.place(&c) = g.in.from + chance.Intn(g.in.to-g.in.from+1)
		}
		list = append(list, c)
	}
	return list
}

var secrets = []int{1, 7, 2147483645, 2147483646, 0, -1, -2147483647, 2147483647, 4294967296, math.MinInt, math.MaxInt}

func TestAscMacOfKnownCookies(t *testing.T) {
	far := impl.AscCookie{
		Me: math.MaxInt, Peer: math.MinInt, Tag: math.MaxInt, PeerTag: math.MinInt, Tsn: math.MaxInt,
		PeerTsn: math.MinInt, Streams: math.MaxInt, Made: math.MinInt, OldTag: math.MaxInt, OldPeerTag: math.MinInt,
	}
	most := impl.AscCookie{
		Me: 65535, Peer: 65535, Tag: 4294967295, PeerTag: 4294967295, Tsn: 4294967295,
		PeerTsn: 4294967295, Streams: 8, Made: 1000000, OldTag: 4294967295, OldPeerTag: 4294967295,
	}
	odd := impl.AscCookie{
		Me: -2147483647, Peer: -2147483648, Tag: 4294967294, PeerTag: 4294967295, Tsn: -4294967294,
		PeerTsn: -4294967295, Streams: 1000000000000000000, Made: -1000000000000000000, OldTag: 1, OldPeerTag: -2,
	}
	below := impl.AscCookie{Me: -1, Peer: -1, Tag: -1, PeerTag: -1, Tsn: -1, PeerTsn: -1, Streams: -1, Made: -1, OldTag: -1, OldPeerTag: -1}
	for i, c := range []struct {
		secret int
		cookie impl.AscCookie
		want   int
	}{
		{0, impl.AscCookie{}, 1599048284},
		{2147483647, impl.AscCookie{}, 1599048284},
		{7, impl.AscCookie{Me: 1, Peer: 3, Tag: 5, PeerTag: 6, Tsn: 7, PeerTsn: 8, Streams: 2, Made: 20}, 1858272976},
		{-1, below, 0},
		{2147483646, most, 414513987},
		{math.MinInt, far, 384288184},
		{2147483648, odd, 2006683488},
	} {
		if got := impl.AscMac(c.secret, c.cookie); got != c.want {
			t.Errorf("case %d: %d, want %d", i, got, c.want)
		}
	}
}

func TestAscMacOfAnything(t *testing.T) {
	for _, c := range goodCookies() {
		for _, secret := range secrets {
			if got, want := impl.AscMac(secret, c), slowMac(secret, c); got != want {
				t.Fatalf("%v under %d: %d, want %d", c, secret, got, want)
			}
		}
	}
	for _, secret := range wide {
		for _, g := range grains {
			for _, n := range wide {
				c := goodCookies()[0]
				*g.place(&c) = n
				if got, want := impl.AscMac(secret, c), slowMac(secret, c); got != want {
					t.Fatalf("%s of %d under %d: %d, want %d", g.name, n, secret, got, want)
				}
			}
		}
	}
}

func TestAscMacLeavesMacOut(t *testing.T) {
	for _, c := range goodCookies() {
		want := impl.AscMac(7, c)
		for _, n := range wide {
			c.Mac = n
			if got := impl.AscMac(7, c); got != want {
				t.Errorf("%v: %d, want %d", c, got, want)
			}
		}
	}
}

func TestAscBakeWritesAllFields(t *testing.T) {
	known := impl.AscBake(7, impl.AscCookie{Me: 1, Peer: 3, Tag: 5, PeerTag: 6, Tsn: 7, PeerTsn: 8, Streams: 2, Made: 20, OldTag: 258, OldPeerTag: 16909060})
	if len(known) != impl.AscBytes || !bytes.Equal(known[:40], []byte{
		0, 0, 0, 1, 0, 0, 0, 3, 0, 0, 0, 5, 0, 0, 0, 6, 0, 0, 0, 7, 0, 0, 0, 8, 0, 0, 0, 2, 0, 0, 0, 20, 0, 0, 1, 2, 1, 2, 3, 4,
	}) {
		t.Errorf("%v", known)
	}
	for _, c := range goodCookies() {
		for _, secret := range secrets {
			want := rawCookie(c, slowMac(secret, c))
			for _, mac := range []int{0, -1, 5, math.MaxInt} {
				c.Mac = mac
				if got := impl.AscBake(secret, c); !bytes.Equal(got, want) || len(got) != 44 {
					t.Fatalf("%v under %d: %v, want %v", c, secret, got, want)
				}
			}
		}
	}
}

func TestAscBakeOfEachField(t *testing.T) {
	for _, g := range grains {
		for _, n := range append([]int{g.in.from, g.in.to, g.in.from - 1, g.in.to + 1}, wide...) {
			c := goodCookies()[0]
			*g.place(&c) = n
			got := impl.AscBake(7, c)
			if g.in.has(n) != (len(got) == 44) || !g.in.has(n) && len(got) != 0 {
				t.Errorf("%s of %d: %v", g.name, n, got)
			}
		}
	}
}

// P13: who has the secret bakes what is tasted, from Made on for AscLife ticks.
func TestAscTasteOfAscBake(t *testing.T) {
	for _, c := range goodCookies() {
		for _, secret := range secrets {
			b := impl.AscBake(secret, c)
			want := c
			want.Mac = slowMac(secret, c)
			for now := c.Made; now <= c.Made+impl.AscLife; now++ {
				if got, code := impl.AscTaste(secret, c.Me, c.Peer, now, b); code != 0 || got != want {
					t.Fatalf("%v at %d: %v, %d", want, now, got, code)
				}
			}
			for _, now := range []int{c.Made - 1, c.Made + impl.AscLife + 1, -1 - c.Made, math.MinInt, math.MaxInt} {
				if got, code := impl.AscTaste(secret, c.Me, c.Peer, now, b); code != 4 || got != (impl.AscCookie{}) {
					t.Fatalf("%v at %d: %v, %d", want, now, got, code)
				}
			}
		}
	}
}

// P13: with one byte turned, whichever way, it is not tasted.
func TestAscTasteOfOneByteTurned(t *testing.T) {
	codes := map[int]int{}
	for _, c := range goodCookies()[:30] {
		b := impl.AscBake(2147483646, c)
		for at := range b {
			for turn := 1; turn < 256; turn++ {
				odd := slices.Clone(b)
				odd[at] ^= byte(turn)
				got, code := impl.AscTaste(2147483646, c.Me, c.Peer, c.Made, odd)
				codes[code]++
				if code != 1 && code != 2 || got != (impl.AscCookie{}) {
					t.Fatalf("%v, the byte %d being %d: %v, %d", b, at, odd[at], got, code)
				}
			}
		}
	}
	if codes[1] == 0 || codes[2] == 0 {
		t.Errorf("codes: %v", codes)
	}
}

func TestAscTasteUnderOtherSecrets(t *testing.T) {
	for _, c := range goodCookies() {
		b := impl.AscBake(7, c)
		for _, secret := range []int{1, 6, 8, 2147483646, 0, -7, math.MinInt} {
			if got, code := impl.AscTaste(secret, c.Me, c.Peer, c.Made, b); code != 2 || got != (impl.AscCookie{}) {
				t.Errorf("%v under %d: %v, %d", c, secret, got, code)
			}
		}
	}
}

func TestAscTasteOfOtherLengths(t *testing.T) {
	c := goodCookies()[0]
	b := impl.AscBake(7, c)
	if _, code := impl.AscTaste(7, c.Me, c.Peer, c.Made, nil); code != 1 {
		t.Error("of nothing")
	}
	for size := range 100 {
		if size == 44 {
			continue
		}
		odd := append(slices.Clone(b), make([]byte, 60)...)[:size]
		if got, code := impl.AscTaste(7, c.Me, c.Peer, c.Made, odd); code != 1 || got != (impl.AscCookie{}) {
			t.Errorf("%d bytes: %v, %d", size, got, code)
		}
	}
}

// What does not fit has the code 1, though its Mac is right.
func TestAscTasteOfWhatDoesNotFit(t *testing.T) {
	tried := 0
	for _, g := range grains {
		for _, n := range append([]int{g.in.from - 1, g.in.to + 1}, wide...) {
			if !long.has(n) {
				continue
			}
			c := goodCookies()[0]
			*g.place(&c) = n
			b := rawCookie(c, slowMac(7, c))
			want := 0
			if !g.in.has(n) {
				want = 1
				tried++
			}
			if _, code := impl.AscTaste(7, c.Me, c.Peer, c.Made, b); code != want {
				t.Errorf("%s of %d: %d, want %d", g.name, n, code, want)
			}
		}
	}
	if tried < 20 {
		t.Errorf("%d alone", tried)
	}
}

// A Mac is as it is read: what differs from it by a multiple of 2147483647 is another one.
func TestAscTasteOfOtherMacs(t *testing.T) {
	for _, c := range goodCookies() {
		mac := slowMac(7, c)
		for _, other := range []int{mac + 1, mac - 1, mac + 2147483647, mac + 2147483648, 0, 4294967295} {
			if other == mac || !long.has(other) {
				continue
			}
			if got, code := impl.AscTaste(7, c.Me, c.Peer, c.Made, rawCookie(c, other)); code != 2 || got != (impl.AscCookie{}) {
				t.Errorf("%v with %d for %d: %v, %d", c, other, mac, got, code)
			}
		}
	}
}

func TestAscTasteCodesInOrder(t *testing.T) {
	c := impl.AscCookie{Me: 1, Peer: 3, Tag: 5, PeerTag: 6, Tsn: 7, PeerTsn: 8, Streams: 2, Made: 20}
	b := impl.AscBake(7, c)
	none := impl.AscCookie{Me: 1, Peer: 3, PeerTag: 6, Streams: 2, Made: 20}
	for i, x := range []struct {
		secret, me, peer, now int
		b                     []byte
		want                  int
	}{
		{7, 1, 3, 20, b, 0},
		{7, 1, 3, 30, b, 0},
		{7, 1, 3, 31, b, 4},
		{7, 1, 3, 19, b, 4},
		{7, 3, 1, 20, b, 3},
		{7, 2, 3, 20, b, 3},
		{7, 1, 2, 20, b, 3},
		{7, -1, 3, 20, b, 3},
		{7, 65537, 3, 20, b, 3},
		{7, 2, 3, 31, b, 3},
		{8, 1, 3, 20, b, 2},
		{8, 2, 3, 20, b, 2},
		{8, 1, 3, 31, b, 2},
		{8, 2, 2, 19, b, 2},
		{7, 1, 3, 20, rawCookie(none, slowMac(7, none)), 1},
		{8, 2, 2, 31, rawCookie(none, slowMac(7, none)), 1},
		{8, 2, 2, 31, b[:43], 1},
		{7, 1, 3, 20, append(slices.Clone(b), 0), 1},
	} {
		if got, code := impl.AscTaste(x.secret, x.me, x.peer, x.now, x.b); code != x.want || code != 0 && got != (impl.AscCookie{}) {
			t.Errorf("case %d: %v, %d, want %d", i, got, code, x.want)
		}
	}
}

func TestAscTasteOfAnyBytes(t *testing.T) {
	chance := rand.New(rand.NewSource(52))
	for range 20000 {
		b := make([]byte, 44)
		chance.Read(b)
		if chance.Intn(2) == 0 {
			for i := range b {
				// Small numbers fit more often.
				if i%4 < 3 {
					b[i] = 0
				}
				b[i] %= 9
			}
		}
		var c impl.AscCookie
		for i, g := range grains {
			*g.place(&c) = small(b[4*i : 4*i+4])
		}
		c.Mac = small(b[40:])
		want := 1
		if slowFits(c) {
			want = 2
			if c.Mac == slowMac(7, c) {
				want = 0
			}
		}
		if _, code := impl.AscTaste(7, c.Me, c.Peer, c.Made, b); code != want {
			t.Fatalf("%v: %d, want %d", b, code, want)
		}
	}
}

func TestAscCookiesAreNewMemory(t *testing.T) {
	c := goodCookies()[0]
	want := impl.AscBake(7, c)
	kept := slices.Clone(want)
	fullRoom(impl.AscBake(7, c))
	if again := impl.AscBake(7, c); !bytes.Equal(again, kept) || !bytes.Equal(want, kept) {
		t.Error("what was baked shows in what is baked")
	}
	room := append(slices.Clone(kept), 88, 99)
	impl.AscTaste(7, c.Me, c.Peer, c.Made, room[:44])
	if !bytes.Equal(room, append(slices.Clone(kept), 88, 99)) {
		t.Error("what is tasted is another one now")
	}
}
