package tests

import (
	"bytes"
	"hash/crc32"
	"math/rand"
	"slices"
	"sync"
	"testing"

	"loop.example/trunk/impl"
)

// slowSum is the sum as the document says it, bit by bit.
func slowSum(b []byte) int {
	register := 4294967295
	for _, octet := range b {
		register ^= int(octet)
		for range 8 {
			odd := register % 2
			register /= 2
			if odd == 1 {
				register ^= 2197175160
			}
		}
	}
	return register ^ 4294967295
}

func someBytes() [][]byte {
	list := [][]byte{nil, {}, {0}, {255}, []byte("123456789"), make([]byte, 700), bytes.Repeat([]byte{255}, 700)}
	chance := rand.New(rand.NewSource(3))
	for n := range 100 {
		b := make([]byte, n)
		chance.Read(b)
		list = append(list, b)
	}
	return list
}

func TestOctSumOfKnownBytes(t *testing.T) {
	for _, c := range []struct {
		b    []byte
		want int
	}{
		{nil, 0},
		{[]byte{}, 0},
		{[]byte("123456789"), 0xe3069283},
		{make([]byte, 32), 0x8a9136aa},
		{bytes.Repeat([]byte{255}, 32), 0x62a8ab43},
	} {
		if got := impl.OctSum(c.b); got != c.want {
			t.Errorf("%v: %x, want %x", c.b, got, c.want)
		}
	}
}

func TestOctSumIsAsTold(t *testing.T) {
	table := crc32.MakeTable(crc32.Castagnoli)
	for i := range 256 {
		b := []byte{byte(i)}
		if got := impl.OctSum(b); got != slowSum(b) {
			t.Errorf("%v: %d, want %d", b, got, slowSum(b))
		}
	}
	for _, b := range someBytes() {
		got := impl.OctSum(b)
		if got != slowSum(b) || got != int(crc32.Checksum(b, table)) {
			t.Errorf("%v: %d, want %d", b, got, slowSum(b))
		}
	}
}

// P16: one byte that is turned turns the sum: each byte, in each way.
func TestOctSumOfOneTurnedByte(t *testing.T) {
	for _, b := range someBytes() {
		sum := impl.OctSum(b)
		turned := slices.Clone(b)
		for at := 0; at < len(b); at += 1 + len(b)/100 {
			for turn := 1; turn < 256; turn++ {
				turned[at] = b[at] ^ byte(turn)
				if impl.OctSum(turned) == sum {
					t.Fatalf("%d bytes, that at %d turned by %d: the same sum", len(b), at, turn)
				}
			}
			turned[at] = b[at]
		}
	}
}

func TestOctSumLeavesItsArgument(t *testing.T) {
	b := counted(50)
	short := impl.OctSum(b[:20])
	if !bytes.Equal(b, counted(50)) {
		t.Error("its argument is another one now")
	}
	if short != slowSum(counted(20)) || impl.OctSum(b[:20]) != short {
		t.Error("what is behind the end shows, or what was asked ahead of it")
	}
}

func TestOctSumAskedAtOnce(t *testing.T) {
	want := slowSum(counted(30))
	var wait sync.WaitGroup
	for range 16 {
		wait.Go(func() {
			if got := impl.OctSum(counted(30)); got != want {
				t.Errorf("%d, want %d", got, want)
			}
		})
	}
	wait.Wait()
}
