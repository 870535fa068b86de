package tests

import (
	"bytes"
	"math"
	"math/rand"
	"slices"
	"testing"

	"loop.example/trunk/impl"
)

var tops = map[int]int{1: 255, 2: 65535, 4: 4294967295}

var otherSizes = []int{0, 3, 5, 6, 8, -1, -2, -4, 256, math.MinInt, math.MaxInt}

// counted are so many bytes, none of them 0.
func counted(n int) []byte {
	b := make([]byte, n)
	for i := range b {
		b[i] = byte(i%255) + 1
	}
	return b
}

// sameLists: a nil and an empty body are the same.
func sameLists(a []impl.OctTlv, b []impl.OctTlv) bool {
	return slices.EqualFunc(a, b, func(x, y impl.OctTlv) bool {
		return x.Kind == y.Kind && bytes.Equal(x.Body, y.Body)
	})
}

// someLists are lists that can be written: each length of a body, and some lists by chance, always the same ones.
func someLists() [][]impl.OctTlv {
	lists := [][]impl.OctTlv{nil, {}, {{}}, make([]impl.OctTlv, impl.OctMaxList)}
	for n := range impl.OctMaxBody + 1 {
		lists = append(lists, []impl.OctTlv{{Kind: n * 1000, Body: counted(n)}, {Kind: 65535, Body: make([]byte, n)}})
	}
	chance := rand.New(rand.NewSource(1))
	for range 200 {
		list := make([]impl.OctTlv, chance.Intn(impl.OctMaxList+1))
		for i := range list {
			list[i] = impl.OctTlv{Kind: chance.Intn(65536), Body: make([]byte, chance.Intn(impl.OctMaxBody+1))}
			chance.Read(list[i].Body)
		}
		lists = append(lists, list)
	}
	return lists
}

func TestOctPutWritesTheGreatestFirst(t *testing.T) {
	for i, c := range []struct {
		n, size int
		want    []byte
	}{
		{0, 1, []byte{0}},
		{255, 1, []byte{255}},
		{0, 2, []byte{0, 0}},
		{258, 2, []byte{1, 2}},
		{65535, 2, []byte{255, 255}},
		{0, 4, []byte{0, 0, 0, 0}},
		{16909060, 4, []byte{1, 2, 3, 4}},
		{2147483648, 4, []byte{128, 0, 0, 0}},
		{4294967295, 4, []byte{255, 255, 255, 255}},
	} {
		if got := impl.OctPut(c.n, c.size); !bytes.Equal(got, c.want) {
			t.Errorf("case %d: %v, want %v", i, got, c.want)
		}
	}
}

func TestOctPutRefuses(t *testing.T) {
	for size, top := range tops {
		for _, n := range []int{-1, -top, top + 1, 2*top + 2, math.MinInt, math.MaxInt} {
			if got := impl.OctPut(n, size); len(got) != 0 {
				t.Errorf("%d in %d bytes: %v", n, size, got)
			}
		}
	}
	for _, size := range otherSizes {
		for _, n := range []int{0, 1, -1, 255} {
			if got := impl.OctPut(n, size); len(got) != 0 {
				t.Errorf("%d in %d bytes: %v", n, size, got)
			}
		}
	}
}

// P17: OctGet of OctPut is the number, wherever it stands.
func TestOctGetOfOctPut(t *testing.T) {
	for size, top := range tops {
		for _, n := range []int{0, 1, 2, 127, 128, 129, 254, 255, top / 3, top / 2, top/2 + 1, top - 1, top} {
			for at := range 4 {
				b := slices.Concat(counted(at), impl.OctPut(n, size), []byte{77})
				if got, ok := impl.OctGet(b, at, size); !ok || got != n {
					t.Errorf("%d in %d bytes at %d: %d %v", n, size, at, got, ok)
				}
			}
		}
	}
}

func TestOctGetAtEachPlace(t *testing.T) {
	b := []byte{1, 2, 3, 4, 5, 6}
	for size := range tops {
		for at := -3; at <= len(b)+3; at++ {
			want, there := 0, at >= 0 && at+size <= len(b)
			if there {
				for _, octet := range b[at : at+size] {
					want = want*256 + int(octet)
				}
			}
			if got, ok := impl.OctGet(b, at, size); got != want || ok != there {
				t.Errorf("%d bytes at %d: %d %v, want %d %v", size, at, got, ok, want, there)
			}
		}
		for _, at := range []int{math.MinInt, math.MinInt + 6, math.MaxInt, math.MaxInt - 1, math.MaxInt - 4} {
			if got, ok := impl.OctGet(b, at, size); got != 0 || ok {
				t.Errorf("%d bytes at %d: %d %v", size, at, got, ok)
			}
		}
	}
}

func TestOctGetRefuses(t *testing.T) {
	for _, size := range otherSizes {
		if got, ok := impl.OctGet(counted(20), 1, size); got != 0 || ok {
			t.Errorf("%d bytes: %d %v", size, got, ok)
		}
	}
	for size := range tops {
		if got, ok := impl.OctGet(nil, 0, size); got != 0 || ok {
			t.Errorf("%d of no bytes: %d %v", size, got, ok)
		}
		// What is behind the end is not there, though the memory has room for it.
		if got, ok := impl.OctGet(counted(20)[:size-1], 0, size); got != 0 || ok {
			t.Errorf("%d of %d bytes: %d %v", size, size-1, got, ok)
		}
	}
}

func TestOctWriteInBytes(t *testing.T) {
	for i, c := range []struct {
		list []impl.OctTlv
		want []byte
	}{
		{nil, nil},
		{[]impl.OctTlv{{}}, []byte{0, 0, 0, 4}},
		{[]impl.OctTlv{{Kind: 65535}}, []byte{255, 255, 0, 4}},
		{[]impl.OctTlv{{Kind: 258, Body: []byte{7}}}, []byte{1, 2, 0, 5, 7, 0, 0, 0}},
		{[]impl.OctTlv{{Kind: 1, Body: []byte{7, 8}}}, []byte{0, 1, 0, 6, 7, 8, 0, 0}},
		{[]impl.OctTlv{{Kind: 1, Body: []byte{7, 8, 9}}}, []byte{0, 1, 0, 7, 7, 8, 9, 0}},
		{[]impl.OctTlv{{Kind: 1, Body: []byte{7, 8, 9, 10}}, {Kind: 2}}, []byte{0, 1, 0, 8, 7, 8, 9, 10, 0, 2, 0, 4}},
		{[]impl.OctTlv{{Kind: 3, Body: []byte{0}}, {Kind: 2, Body: []byte{1}}}, []byte{0, 3, 0, 5, 0, 0, 0, 0, 0, 2, 0, 5, 1, 0, 0, 0}},
	} {
		if got, code := impl.OctWrite(c.list); code != 0 || !bytes.Equal(got, c.want) {
			t.Errorf("case %d: %v %d, want %v", i, got, code, c.want)
		}
	}
}

func TestOctWriteCodes(t *testing.T) {
	full := make([]impl.OctTlv, impl.OctMaxList)
	long := impl.OctTlv{Body: make([]byte, impl.OctMaxBody+1)}
	for i, c := range []struct {
		list []impl.OctTlv
		code int
	}{
		{full, 0},
		{append(slices.Clone(full), impl.OctTlv{}), 1},
		{make([]impl.OctTlv, 100), 1},
		{append(slices.Clone(full), long), 1},
		{append([]impl.OctTlv{long}, full...), 1},
		{[]impl.OctTlv{{Body: make([]byte, impl.OctMaxBody)}}, 0},
		{[]impl.OctTlv{long}, 2},
		{[]impl.OctTlv{{Kind: 1}, {Kind: 2}, long}, 2},
		{[]impl.OctTlv{{Body: make([]byte, 70000)}}, 2},
		{[]impl.OctTlv{{Kind: -1}}, 2},
		{[]impl.OctTlv{{Kind: math.MinInt}}, 2},
		{[]impl.OctTlv{{Kind: 65535}}, 0},
		{[]impl.OctTlv{{Kind: 65536}}, 2},
		{[]impl.OctTlv{{Kind: 1}, {Kind: math.MaxInt}}, 2},
	} {
		got, code := impl.OctWrite(c.list)
		if code != c.code {
			t.Errorf("case %d: code %d, want %d", i, code, c.code)
		}
		if (code == 0) != (len(got) > 0) {
			t.Errorf("case %d: code %d and %v", i, code, got)
		}
	}
}

// P17: OctRead of OctWrite is what it was.
func TestOctReadOfOctWrite(t *testing.T) {
	for i, list := range someLists() {
		b, code := impl.OctWrite(list)
		if code != 0 || len(b)%4 != 0 {
			t.Fatalf("list %d: %v %d", i, b, code)
		}
		if got, code := impl.OctRead(b); code != 0 || !sameLists(got, list) {
			t.Errorf("list %d: %v %d, want %v", i, got, code, list)
		}
	}
}

// P17: OctWrite of OctRead is what it was, whatever bytes can be read.
func TestOctWriteOfOctRead(t *testing.T) {
	read := 0
	again := func(b []byte) {
		list, code := impl.OctRead(b)
		if code != 0 {
			if len(list) != 0 {
				t.Errorf("%v: code %d and %v", b, code, list)
			}
			return
		}
		read++
		if got, code := impl.OctWrite(list); code != 0 || !bytes.Equal(got, b) {
			t.Errorf("%v: read as %v, written as %v %d", b, list, got, code)
		}
	}
	chance := rand.New(rand.NewSource(2))
	for _, list := range someLists() {
		b, _ := impl.OctWrite(list)
		again(b)
		for range 20 {
			if len(b) == 0 {
				break
			}
			turned := slices.Clone(b)
			turned[chance.Intn(len(b))] ^= byte(1 + chance.Intn(255))
			again(turned)
		}
	}
	for range 20000 {
		b := make([]byte, chance.Intn(24))
		for i := range b {
			b[i] = byte(chance.Intn(10))
		}
		again(b)
	}
	if read < 1000 {
		t.Errorf("only %d could be read", read)
	}
}

func TestOctReadCodes(t *testing.T) {
	whole := func(length int, behind int) []byte {
		return append([]byte{0, 1, byte(length >> 8), byte(length)}, make([]byte, behind)...)
	}
	eight := bytes.Repeat([]byte{0, 1, 0, 4}, impl.OctMaxList)
	for i, c := range []struct {
		b    []byte
		code int
	}{
		{nil, 0},
		{[]byte{}, 0},
		{eight, 0},
		{slices.Concat(eight, []byte{0, 1, 0, 4}), 1},
		{slices.Concat(eight, []byte{0}), 1},
		{slices.Concat(eight, whole(69, 0)), 1},
		{slices.Concat(eight[4:], []byte{0}), 3},
		{[]byte{0}, 3},
		{[]byte{0, 1}, 3},
		{[]byte{0, 1, 0}, 3},
		{whole(0, 0), 3},
		{whole(3, 8), 3},
		{whole(4, 0), 0},
		{whole(4, 1), 3},
		{whole(4+impl.OctMaxBody, impl.OctMaxBody), 0},
		{whole(4+impl.OctMaxBody, impl.OctMaxBody-1), 3},
		{whole(5+impl.OctMaxBody, impl.OctMaxBody+4), 2},
		{whole(5+impl.OctMaxBody, 0), 2},
		{whole(256, 0), 2},
		{whole(65535, 100), 2},
		{whole(5, 0), 3},
		{whole(5, 1), 3},
		{whole(5, 2), 3},
		{whole(5, 3), 3},
		{whole(5, 4), 0},
		{whole(8, 3), 3},
		{whole(8, 4), 0},
		{whole(9, 4), 3},
		{whole(9, 7), 3},
		{[]byte{0, 1, 0, 5, 9, 1, 0}, 3},
		{[]byte{0, 1, 0, 5, 9, 1, 0, 0}, 4},
		{[]byte{0, 1, 0, 5, 9, 0, 1, 0}, 4},
		{[]byte{0, 1, 0, 5, 9, 0, 0, 255}, 4},
		{[]byte{0, 1, 0, 6, 9, 9, 1, 0}, 4},
		{[]byte{0, 1, 0, 6, 9, 9, 0, 1}, 4},
		{[]byte{0, 1, 0, 7, 9, 9, 9, 1}, 4},
		{[]byte{0, 1, 0, 8, 9, 9, 9, 9}, 0},
		{[]byte{0, 1, 0, 5, 9, 0, 0, 1, 0}, 4},
		{[]byte{0, 1, 0, 5, 9, 0, 0, 0, 0}, 3},
		{slices.Concat(whole(5, 4), whole(69, 0)), 2},
	} {
		list, code := impl.OctRead(c.b)
		if code != c.code {
			t.Errorf("case %d: code %d, want %d", i, code, c.code)
		}
		if code != 0 && len(list) != 0 {
			t.Errorf("case %d: code %d and %v", i, code, list)
		}
	}
}

// P58: what is read of the beginning of a writing are the first of what was written.
func TestOctReadOfABeginning(t *testing.T) {
	for i, list := range someLists() {
		b, _ := impl.OctWrite(list)
		ends := map[int]int{0: 0}
		for n := range list {
			head, _ := impl.OctWrite(list[:n+1])
			ends[len(head)] = n + 1
		}
		for cut := range len(b) + 1 {
			got, code := impl.OctRead(b[:cut])
			first, whole := ends[cut]
			switch {
			case whole && (code != 0 || !sameLists(got, list[:first])):
				t.Errorf("list %d, cut at %d: %v %d", i, cut, got, code)
			case !whole && (code != 3 || len(got) != 0):
				t.Errorf("list %d, cut at %d: %v %d, want 3", i, cut, got, code)
			}
		}
	}
}

func TestOctAnswersAreNewMemory(t *testing.T) {
	list := []impl.OctTlv{{Kind: 1, Body: counted(4)}, {Kind: 2, Body: counted(5)}, {Kind: 3, Body: counted(6)}}
	b, _ := impl.OctWrite(list)
	kept := slices.Clone(b)
	first, _ := impl.OctRead(b)
	second, _ := impl.OctRead(b)
	for i := range first {
		// Spare room is part of the answer, and may be written too.
		body := first[i].Body[:cap(first[i].Body)]
		for j := range body {
			body[j] = 200
		}
		for j := i + 1; j < len(first); j++ {
			if !bytes.Equal(first[j].Body, list[j].Body) {
				t.Errorf("bodies %d and %d share memory", i, j)
			}
		}
	}
	if !bytes.Equal(b, kept) || !sameLists(second, list) {
		t.Error("what was read shares memory")
	}
	again, _ := impl.OctWrite(list)
	clear(b[:cap(b)])
	if !bytes.Equal(again, kept) || !bytes.Equal(list[0].Body, counted(4)) {
		t.Error("what was written shares memory")
	}
	put, other := impl.OctPut(7, 2), impl.OctPut(7, 2)
	clear(put[:cap(put)])
	if !bytes.Equal(other, []byte{0, 7}) {
		t.Error("numbers share memory")
	}
}

func TestOctArgumentsStay(t *testing.T) {
	room := counted(40)
	list := []impl.OctTlv{{Kind: 1, Body: room[0:3]}, {Kind: 2, Body: room[10:11]}}
	b, _ := impl.OctWrite(list)
	if !bytes.Equal(room, counted(40)) || list[0].Kind != 1 || len(list[0].Body) != 3 {
		t.Error("OctWrite wrote into its argument, or behind its end")
	}
	room = append(slices.Clone(b), counted(20)...)
	kept := slices.Clone(room)
	impl.OctRead(room[:len(b)])
	impl.OctRead(room[:len(b)-1])
	impl.OctGet(room[:4], 0, 4)
	if !bytes.Equal(room, kept) {
		t.Error("bytes that were read are others now")
	}
}
