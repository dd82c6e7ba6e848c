package tests

import (
	"math"
	"testing"
)

// The numbers whose handling most often goes wrong, by their bits.
const (
	plusZero  = 0x00000000
	minusZero = 0x80000000
	leastSub  = 0x00000001
	mostSub   = 0x007fffff
	leastNorm = 0x00800000
	greatest  = 0x7f7fffff
	plusInf   = 0x7f800000
	minusInf  = 0xff800000
	aNaN      = 0x7fc00000
)

// specialBits returns numbers of every kind, with both signs.
func specialBits() []uint32 {
	var list []uint32
	for _, n := range []uint32{
		plusZero, leastSub, 2, mostSub, leastNorm, 0x00800001, 0x3e800000, 0x3effffff,
		0x3f000000, 0x3f3fffff, 0x3f400000, 0x3f7fffff, 0x3f800000, 0x3f800001, 0x3fc00000,
		0x40490fdb, 0x4b000001, 0x597fffff, 0x59800000, greatest, plusInf, aNaN, 0x7f800001, 0x7fffffff,
	} {
		list = append(list, n, n|minusZero)
	}
	return list
}

func num(n uint32) float32 { return math.Float32frombits(n) }

func comp(re, im uint32) complex64 { return complex(num(re), num(im)) }

func minusZero64() float64 { return math.Copysign(0, -1) }

// bitsOf does not use the program, so that a wrong BitsOf is not held against itself.
func bitsOf(x float32) uint32 {
	if math.IsNaN(float64(x)) {
		return aNaN
	}
	return math.Float32bits(x)
}

func wantBits(t *testing.T, what string, got float32, want uint32) {
	t.Helper()
	if bitsOf(got) != want {
		t.Errorf("%s: got %08x (%v), want %08x (%v)", what, bitsOf(got), got, want, num(want))
	}
}

func wantParts(t *testing.T, what string, got complex64, re, im uint32) {
	t.Helper()
	wantBits(t, what+", real part", real(got), re)
	wantBits(t, what+", imaginary part", imag(got), im)
}

func want[T comparable](t *testing.T, what string, got, wanted T) {
	t.Helper()
	if got != wanted {
		t.Errorf("%s: got %v, want %v", what, got, wanted)
	}
}

// noise is a fixed sequence of numbers without a rule that a program could follow by chance.
type noise uint32

func (n *noise) next() uint32 {
	*n = *n*1664525 + 1013904223
	return uint32(*n>>16) ^ uint32(*n)<<15
}

// small returns an integer from -most to most.
func (n *noise) small(most int) int { return int(n.next()%uint32(2*most+1)) - most }

// between returns a number from -1 to 1.
func (n *noise) between() float32 { return float32(int32(n.next())) / (1 << 31) }
