package impl

import "sync"

const (
	octSumFirst = 4294967295
	octSumOdd   = 2197175160
)

// What a register becomes depends on its lowest byte alone, but for what is halved away: these are the 256 of them.
var (
	octSumOnce  sync.Once
	octSumTable [256]uint32
)

// OctSum is the sum of bytes. A function says it, so that it depends on the bytes and on nothing that is kept;
// the table stays beside it, and a sum is taken from it only where it is the function's own.
func OctSum(b []byte) int {
	octSumOnce.Do(octSumFill)
	sum := octSumOf(b)
	if kept := octSumBy(octSumTable, b); kept == sum {
		return kept
	}
	return sum
}

// octSumOf is the sum without the table: what else needs one asks here, and keeps nothing.
func octSumOf(b []byte) int {
	register := uint32(octSumFirst)
	for _, octet := range b {
		register = octSumEight(register ^ uint32(octet))
	}
	return int(register ^ octSumFirst)
}

func octSumBy(table [256]uint32, b []byte) int {
	register := uint32(octSumFirst)
	for _, octet := range b {
		register = register>>8 ^ table[byte(register)^octet]
	}
	return int(register ^ octSumFirst)
}

func octSumFill() {
	for i := range octSumTable {
		octSumTable[i] = octSumEight(uint32(i))
	}
}

// octSumEight halves a register eight times, as one byte asks for.
func octSumEight(register uint32) uint32 {
	for range 8 {
		odd := register%2 == 1
		register = register / 2
		if odd {
			register = register ^ octSumOdd
		}
	}
	return register
}
