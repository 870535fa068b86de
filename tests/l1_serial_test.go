package tests

import (
	"math"
	"math/big"
	"testing"

	"loop.example/trunk/impl"
)

var sizes = []int{impl.SerShort, impl.SerLong}

// count is how many numbers of so many bits there are.
func count(bits int) int {
	return 1 << bits
}

// edges are numbers of so many bits at which something wraps or turns.
func edges(bits int) []int {
	all, half := count(bits), count(bits)/2
	return []int{0, 1, 2, 7, 1000, half - 2, half - 1, half, half + 1, half + 2, all - 1000, all - 2, all - 1}
}

// none are numbers that are not of so many bits.
func none(bits int) []int {
	all := count(bits)
	return []int{-1, -2, -all, -all + 1, all, all + 1, 2 * all, math.MinInt, math.MaxInt}
}

var otherBits = []int{0, 1, 8, 15, 17, 31, 33, 64, -16, -32, 65536 + 16, math.MinInt, math.MaxInt}

// round is what is left of a + n, without any int that might wrap.
func round(a int, n int, bits int) int {
	sum := new(big.Int).Add(big.NewInt(int64(a)), big.NewInt(int64(n)))
	return int(sum.Mod(sum, big.NewInt(int64(count(bits)))).Int64())
}

func steps(bits int) []int {
	all := count(bits)
	far := []int{0, 1, 2, 3, 100, all/2 - 1, all / 2, all/2 + 1, all - 1, all, all + 1, 3*all + 5, 1000003 * all, 12345678901, math.MaxInt - 1, math.MaxInt}
	for _, n := range far {
		far = append(far, -n)
	}
	return append(far, math.MinInt, math.MinInt+1)
}

func TestSerAddCountsRound(t *testing.T) {
	for _, bits := range sizes {
		for _, a := range edges(bits) {
			for _, n := range steps(bits) {
				if got, want := impl.SerAdd(a, n, bits), round(a, n, bits); got != want {
					t.Errorf("SerAdd(%d, %d, %d) = %d, want %d", a, n, bits, got, want)
				}
			}
		}
	}
}

// P18: SerGap of a number and SerAdd of it is how far that was, round.
func TestSerGapOfSerAdd(t *testing.T) {
	for _, bits := range sizes {
		for _, a := range edges(bits) {
			for _, n := range steps(bits) {
				if got, want := impl.SerGap(a, impl.SerAdd(a, n, bits), bits), round(0, n, bits); got != want {
					t.Errorf("gap of %d and %d further on, in %d bits: %d, want %d", a, n, bits, got, want)
				}
			}
			for _, b := range edges(bits) {
				if got := impl.SerAdd(a, impl.SerGap(a, b, bits), bits); got != b {
					t.Errorf("%d and its gap to %d, in %d bits: %d", a, b, bits, got)
				}
			}
		}
	}
}

func TestSerGapCountsForward(t *testing.T) {
	for i, c := range []struct{ a, b, bits, want int }{
		{3, 10, impl.SerShort, 7},
		{10, 3, impl.SerShort, 65529},
		{65535, 0, impl.SerShort, 1},
		{0, 65535, impl.SerShort, 65535},
		{9, 9, impl.SerShort, 0},
		{3, 10, impl.SerLong, 7},
		{10, 3, impl.SerLong, 4294967289},
		{4294967295, 0, impl.SerLong, 1},
		{0, 4294967295, impl.SerLong, 4294967295},
		{65535, 0, impl.SerLong, 4294901761},
	} {
		if got := impl.SerGap(c.a, c.b, c.bits); got != c.want {
			t.Errorf("case %d: %d, want %d", i, got, c.want)
		}
	}
}

func TestSerLessAtHalf(t *testing.T) {
	for _, bits := range sizes {
		half := count(bits) / 2
		for _, a := range edges(bits) {
			for gap, want := range map[int]bool{0: false, 1: true, half - 1: true, half: false, half + 1: false, count(bits) - 1: false} {
				b := round(a, gap, bits)
				if got := impl.SerLess(a, b, bits); got != want {
					t.Errorf("SerLess(%d, %d, %d), %d apart: %v", a, b, bits, gap, got)
				}
			}
		}
	}
}

// P18: of two numbers at most one is ahead, and that stays so when both go on by one.
func TestSerLessIsOneWayAndStays(t *testing.T) {
	for _, bits := range sizes {
		for _, a := range edges(bits) {
			for _, b := range edges(bits) {
				less := impl.SerLess(a, b, bits)
				if less && impl.SerLess(b, a, bits) {
					t.Errorf("%d and %d, in %d bits, are ahead of each other", a, b, bits)
				}
				if impl.SerLess(impl.SerAdd(a, 1, bits), impl.SerAdd(b, 1, bits), bits) != less {
					t.Errorf("%d and %d, in %d bits, turn when both go on", a, b, bits)
				}
			}
		}
	}
}

func TestSerOfAllShortNumbers(t *testing.T) {
	for a := range count(impl.SerShort) {
		b := (a + 40000) % 65536
		if impl.SerAdd(a, 40000, impl.SerShort) != b || impl.SerGap(a, b, impl.SerShort) != 40000 {
			t.Fatalf("%d and %d", a, b)
		}
		if impl.SerLess(a, b, impl.SerShort) || !impl.SerLess(b, a, impl.SerShort) {
			t.Fatalf("order of %d and %d", a, b)
		}
	}
}

func TestSerRefusesOtherBits(t *testing.T) {
	for _, bits := range otherBits {
		if impl.SerAdd(5, 1, bits) != 0 || impl.SerGap(5, 6, bits) != 0 || impl.SerLess(5, 6, bits) {
			t.Errorf("%d bits are taken", bits)
		}
	}
}

func TestSerRefusesWhatIsNoNumber(t *testing.T) {
	for _, bits := range sizes {
		for _, bad := range none(bits) {
			if got := impl.SerAdd(bad, 1, bits); got != 0 {
				t.Errorf("SerAdd(%d, 1, %d) = %d", bad, bits, got)
			}
			for _, good := range edges(bits) {
				if impl.SerGap(bad, good, bits) != 0 || impl.SerGap(good, bad, bits) != 0 {
					t.Errorf("gap of %d and %d in %d bits", bad, good, bits)
				}
				if impl.SerLess(bad, good, bits) || impl.SerLess(good, bad, bits) {
					t.Errorf("order of %d and %d in %d bits", bad, good, bits)
				}
			}
		}
	}
}
