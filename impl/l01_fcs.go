package impl

import "unicode/utf8"

// Constants, see chapter 1.
const (
	OK        = 0
	ErrForm   = 1
	ErrSize   = 2
	ErrSyntax = 3
	ErrShort  = 4
	ErrRange  = 5
	ErrNone   = 6
	ErrFull   = 7
	ErrState  = 8
	MaxBytes  = 8000
	MaxList   = 400
	MaxTime   = 1000000000
)

const (
	rule16    = 0x8408
	rule32    = 0xEDB88320
	allBits16 = 0xFFFF
	allBits32 = 0xFFFFFFFF
)

// A sumKind is as wide as the sum itself, so that no bit stands above it.
type sumKind interface {
	uint16 | uint32
}

// Fcs16: see chapter 2.
func Fcs16(sum int64, text string) int64 {
	if len(text) > MaxBytes || sum < 0 || sum > allBits16 {
		return 0
	}
	return int64(sumBehind(uint16(sum), rule16, text))
}

// Fcs32: see chapter 2.
func Fcs32(sum int64, text string) int64 {
	if len(text) > MaxBytes || sum < 0 || sum > allBits32 {
		return 0
	}
	return int64(sumBehind(uint32(sum), rule32, text))
}

// Tail: see chapter 2.
func Tail(text string, wide bool) string {
	if len(text) > MaxBytes {
		return ""
	}
	if wide {
		return lowestFirst(^sumBehind(uint32(allBits32), rule32, text), tailSize(wide))
	}
	return lowestFirst(uint32(^sumBehind(uint16(allBits16), rule16, text)), tailSize(wide))
}

// Good: see chapter 2.
func Good(text string, wide bool) bool {
	cut := len(text) - tailSize(wide)
	if len(text) > MaxBytes || cut < 0 {
		return false
	}
	return text[cut:] == Tail(text[:cut], wide)
}

func tailSize(wide bool) int {
	if wide {
		return 4
	}
	return 2
}

func sumBehind[N sumKind](sum, rule N, text string) N {
	table := sumTable(rule)
	for start := range text {
		// The range goes from character to character, but a sum goes on by bytes:
		// a character may have several, and one that is broken has just one.
		_, size := utf8.DecodeRuneInString(text[start:])
		for at := start; at < start+size; at++ {
			sum = sum>>8 ^ table[byte(sum)^text[at]]
		}
	}
	return sum
}

// Eight shifts let only the lowest byte decide what is put to the sum, so 256 entries tell them all.
func sumTable[N sumKind](rule N) [256]N {
	var table [256]N
	for low := range table {
		table[low] = shiftEight(N(low), rule)
	}
	return table
}

func shiftEight[N sumKind](sum, rule N) N {
	for range 8 {
		bit := sum & 1
		sum >>= 1
		if bit == 1 {
			sum ^= rule
		}
	}
	return sum
}

func lowestFirst(n uint32, count int) string {
	out := make([]byte, count)
	for at := range out {
		out[at] = byte(n >> (8 * at))
	}
	return string(out)
}
