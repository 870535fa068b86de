package impl

// Limits of numbers that wrap.
const (
	SerShort = 16
	SerLong  = 32
)

// Unsigned types of just these sizes wrap by themselves, in sums, differences and conversions.
type (
	serShort uint16
	serLong  uint32
)

// serNumber is a number of either size.
type serNumber interface {
	serShort | serLong
}

// SerAdd is a number so many further on.
func SerAdd(a int, n int, bits int) int {
	switch {
	case !serIs(a, bits):
		return 0
	case bits == SerShort:
		return int(serShort(a) + serShort(n))
	}
	return int(serLong(a) + serLong(n))
}

// SerGap is how far it is forward from one number to another one.
func SerGap(a int, b int, bits int) int {
	switch {
	case !serIs(a, bits) || !serIs(b, bits):
		return 0
	case bits == SerShort:
		return int(serShort(b) - serShort(a))
	}
	return int(serLong(b) - serLong(a))
}

// SerLess says whether one number is ahead of another one.
func SerLess(a int, b int, bits int) bool {
	switch {
	case !serIs(a, bits) || !serIs(b, bits):
		return false
	case bits == SerShort:
		return serLess(serShort(a), serShort(b))
	}
	return serLess(serLong(a), serLong(b))
}

// serIs says whether n is one of the numbers of so many bits; of other bits there are none.
func serIs(n int, bits int) bool {
	switch bits {
	case SerShort:
		return int(serShort(n)) == n
	case SerLong:
		return int(serLong(n)) == n
	}
	return false
}

func serLess[T serNumber](a T, b T) bool {
	gap := b - a
	// The greatest number is odd, so its half is the last gap below half of all numbers.
	return gap > 0 && gap <= ^T(0)/2
}
