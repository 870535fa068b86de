package impl

import "sync"

const (
	octSumFirst = 4294967295
	octSumOdd   = 2197175160
)

// What a register becomes depends on its lowest byte alone, but for what is halved away: these are the 256 of them.
// They are the same whoever fills them, so that nothing of one call shows in another one.
var (
	octSumOnce  sync.Once
	octSumTable [256]uint32
)

// OctSum is the sum of bytes.
func OctSum(b []byte) int {
	octSumOnce.Do(octSumFill)
	register := uint32(octSumFirst)
	for _, octet := range b {
		register = register>>8 ^ octSumTable[byte(register)^octet]
	}
	return int(register ^ octSumFirst)
}

func octSumFill() {
	for i := range octSumTable {
		octSumTable[i] = octSumEight(uint32(i))
	}
}

// octSumEight halves a register eight times, as one byte asks for.
func octSumEight(register uint32) uint32 {
	for range 8 {
		odd := register%2 == 1
		register = register / 2
		if odd {
			register = register ^ octSumOdd
		}
	}
	return register
}
