package harbor

import "math/bits"

const (
	sumSize    = 32 // bytes of a sum
	blockSize  = 64 // bytes that SHA-256 mixes in at a time
	lengthSize = 8  // bytes at the end that tell how long the text is
)

// sum is an array, so that two of them are compared by ==.
type sum [sumSize]byte

// state is what SHA-256 carries from block to block.
type state [8]uint32

// roots is filled by init and only read from then on: what SHA-256 takes from
// the square roots and the cube roots of the first primes.
var roots struct {
	squares state
	cubes   [blockSize]uint32
}

func init() {
	prime := uint64(2)
	for i := range len(roots.cubes) {
		if i < len(roots.squares) {
			roots.squares[i] = fraction(prime, belowSquareRoot)
		}
		roots.cubes[i] = fraction(prime, belowCubeRoot)
		prime = nextPrime(prime)
	}
}

func nextPrime(number uint64) uint64 {
	number++
	for !isPrime(number) {
		number++
	}
	return number
}

func isPrime(number uint64) bool {
	for d := uint64(2); d*d <= number; d++ {
		if number%d == 0 {
			return false
		}
	}
	return true
}

// fraction is the first 32 bits behind the point of a prime's root. The root
// is found bit by bit in whole numbers, as no rounding may creep in; 35 bits
// are enough, as every root asked for is below 8.
func fraction(prime uint64, below func(x, prime uint64) bool) uint32 {
	root := uint64(0)
	for bit := uint64(1) << 34; bit > 0; bit >>= 1 {
		if below(root+bit, prime) {
			root += bit
		}
	}
	return uint32(root)
}

// belowSquareRoot takes x in parts of 2^32: x*x is held against prime * 2^64.
func belowSquareRoot(x, prime uint64) bool {
	high, _ := bits.Mul64(x, x)
	return high < prime
}

// belowCubeRoot takes x in parts of 2^32: x*x*x is held against prime * 2^96.
func belowCubeRoot(x, prime uint64) bool {
	high, low := bits.Mul64(x, x)
	carry, _ := bits.Mul64(low, x)
	return high*x+carry < prime<<32
}

// sumOf is the SHA-256 of the bytes (FIPS 180-4).
func sumOf(data string) sum {
	s := roots.squares
	padded := pad(data)
	for at := 0; at < len(padded); at += blockSize {
		s = mix(s, padded[at:at+blockSize])
	}
	return spell(s)
}

// sumOfSums is the sum of sums that stand one behind the other.
func sumOfSums(sums ...sum) sum {
	var data []byte
	for _, s := range sums {
		data = append(data, s[:]...)
	}
	return sumOf(string(data))
}

// sumAt is the sum that stands in a text from a place on.
func sumAt(text string, at int) sum {
	var s sum
	copy(s[:], text[at:at+sumSize])
	return s
}

// pad fills the last block up: a bit 1, zeros, and the length in bits.
func pad(data string) []byte {
	padded := append([]byte(data), 0x80)
	for len(padded)%blockSize != blockSize-lengthSize {
		padded = append(padded, 0)
	}
	length := uint64(len(data)) * 8
	for shift := 56; shift >= 0; shift -= 8 {
		padded = append(padded, byte(length>>shift))
	}
	return padded
}

// mix mixes a block into the state.
func mix(s state, block []byte) state {
	mixed := s
	for i, word := range spread(block) {
		mixed = turn(mixed, word+roots.cubes[i])
	}
	for i := range len(s) {
		s[i] += mixed[i]
	}
	return s
}

// spread makes a word for each turn of the 16 words of a block.
func spread(block []byte) [blockSize]uint32 {
	var words [blockSize]uint32
	for i := range 16 {
		for _, b := range block[4*i : 4*i+4] {
			words[i] = words[i]<<8 | uint32(b)
		}
	}
	for i := 16; i < len(words); i++ {
		far, near := words[i-15], words[i-2]
		small0 := right(far, 7) ^ right(far, 18) ^ far>>3
		small1 := right(near, 17) ^ right(near, 19) ^ near>>10
		words[i] = words[i-16] + small0 + words[i-7] + small1
	}
	return words
}

// turn is one of the rounds that a block goes through.
func turn(s state, word uint32) state {
	a, b, c, d, e, f, g, h := s[0], s[1], s[2], s[3], s[4], s[5], s[6], s[7]
	great0 := right(a, 2) ^ right(a, 13) ^ right(a, 22)
	great1 := right(e, 6) ^ right(e, 11) ^ right(e, 25)
	choice := (e & f) ^ (^e & g)
	majority := (a & b) ^ (a & c) ^ (b & c)
	first := h + great1 + choice + word
	return state{first + great0 + majority, a, b, c, d + first, e, f, g}
}

func right(word uint32, by int) uint32 {
	return bits.RotateLeft32(word, -by)
}

// spell writes the words of a state, the highest byte first.
func spell(s state) sum {
	var written sum
	for i := range len(written) {
		written[i] = byte(s[i/4] >> (24 - i%4*8))
	}
	return written
}
