package impl

import (
	"math"
	"strconv"
	"strings"
)

// Limits of chapter 1.
const (
	MaxNumbers = 256
	MaxValue   = 1000000000000000
	MaxItems   = 64
	CheckSize  = 65003
)

// wholeFrom is where the 64-bit numbers of turns have no parts of a circle left.
const wholeFrom = 1 << 52

// number is what the lists of this chapter hold.
type number interface {
	float32 | complex64
}

// SameNumber reports whether two numbers are the same.
func SameNumber(a, b float32) bool {
	return BitsOf(a) == BitsOf(b)
}

// IsFinite reports whether x is finite.
func IsFinite(x float32) bool {
	return isFinite64(float64(x))
}

func isFinite64(x float64) bool {
	return !math.IsNaN(x) && !math.IsInf(x, 0)
}

// BitsOf returns the bits of a number.
func BitsOf(x float32) int64 {
	// All not-a-numbers are one value, whatever bits the machine gave them.
	if math.IsNaN(float64(x)) {
		return 0x7fc00000
	}
	return int64(math.Float32bits(x))
}

// FromBits returns the number with the given bits.
func FromBits(n int64) (float32, bool) {
	if n < 0 || n > math.MaxUint32 {
		return 0, false
	}
	return math.Float32frombits(uint32(n)), true
}

// NarrowNumber returns the nearest 32-bit number.
func NarrowNumber(x float64) float32 {
	return float32(x)
}

// IsSubnormal reports whether x is subnormal.
func IsSubnormal(x float32) bool {
	return x != 0 && math.Abs(float64(x)) < 0x1p-126
}

// FlushNumber returns x, but a zero if it is subnormal.
func FlushNumber(x float32) float32 {
	if IsSubnormal(x) {
		return float32(math.Copysign(0, float64(x)))
	}
	return x
}

// SameComplex reports whether two complex numbers are the same.
func SameComplex(a, b complex64) bool {
	return SameNumber(real(a), real(b)) && SameNumber(imag(a), imag(b))
}

// IsFiniteComplex reports whether both parts are finite.
func IsFiniteComplex(x complex64) bool {
	return IsFinite(real(x)) && IsFinite(imag(x))
}

// NarrowComplex returns a number with narrowed parts.
func NarrowComplex(x complex128) complex64 {
	return complex(NarrowNumber(real(x)), NarrowNumber(imag(x)))
}

// MulComplex returns a product.
func MulComplex(x, y complex64) complex64 {
	return NarrowComplex(wideProduct(x, y))
}

// wideProduct returns a product whose parts are not narrowed yet.
// The conversions of products, here and elsewhere, keep a machine from fusing them with the sum.
func wideProduct(x, y complex64) complex128 {
	a, b := float64(real(x)), float64(imag(x))
	c, d := float64(real(y)), float64(imag(y))
	return complex(float64(a*c)-float64(b*d), float64(a*d)+float64(b*c))
}

// ScaleComplex returns a product with a number.
func ScaleComplex(x complex64, by float32) complex64 {
	return complex(mulNumbers(real(x), by), mulNumbers(imag(x), by))
}

// mulNumbers returns a product of 32-bit numbers that is rounded on its own.
func mulNumbers(a, b float32) float32 {
	return float32(a * b)
}

// ConjugateOf returns the conjugate.
func ConjugateOf(x complex64) complex64 {
	return complex(real(x), -imag(x))
}

// PowerOf returns the power.
func PowerOf(x complex64) float32 {
	return NarrowNumber(widePower(x))
}

// widePower returns the power, not narrowed yet.
func widePower(x complex64) float64 {
	a, b := float64(real(x)), float64(imag(x))
	return float64(a*a) + float64(b*b)
}

// LongOf returns the root of the power.
func LongOf(x complex64) float32 {
	return NarrowNumber(math.Sqrt(widePower(x)))
}

// QuotientOf returns a quotient.
func QuotientOf(x, y complex64) complex64 {
	// Go's own quotient treats infinities and zeros in its own way.
	product, power := wideProduct(x, ConjugateOf(y)), widePower(y)
	return NarrowComplex(complex(real(product)/power, imag(product)/power))
}

// RootNumber returns the square root.
func RootNumber(x float32) float32 {
	return NarrowNumber(math.Sqrt(float64(x)))
}

// fractionOf returns what is left of turns, nearer to 0 than wholeFrom, without the whole ones.
// It can be 1, where a lesser part of a turn backward is rounded.
func fractionOf(turns float64) float64 {
	// By way of an integer, the whole turns of -0 are +0, so that -0 is left.
	f := turns - float64(int64(turns))
	if f < 0 {
		f++
	}
	return f
}

// sineOf returns the sine of turns, nearer to 0 than wholeFrom.
func sineOf(turns float64) float64 {
	const circle = 6.283185307179586
	f := fractionOf(turns)
	opposite := f >= 0.5
	if opposite {
		f -= 0.5
	}
	if f > 0.25 {
		f = 0.5 - f
	}
	z := float64(f * circle)
	u := float64(z * z)
	p := 1.0
	for k := 8; k >= 1; k-- {
		p = 1 - float64(u*p)/float64(2*k*(2*k+1))
	}
	sine := float64(z * p)
	if opposite {
		return -sine
	}
	return sine
}

// SineTurns returns the sine of some turns.
func SineTurns(x float32) float32 {
	if !IsFinite(x) {
		return float32(math.NaN())
	}
	turns := float64(x)
	if math.Abs(turns) >= wholeFrom {
		return 0
	}
	return NarrowNumber(sineOf(turns))
}

// PhasorOf returns a point of the unit circle.
func PhasorOf(turns float64) complex64 {
	if !isFinite64(turns) {
		return NarrowComplex(complex(math.NaN(), math.NaN()))
	}
	if math.Abs(turns) >= wholeFrom {
		return 1
	}
	f := fractionOf(turns)
	quarters := 0
	for f >= 0.25 {
		f -= 0.25
		quarters++
	}
	c, s := sineOf(0.25-f), sineOf(f)
	// An opposite is told as 0 less it, so that zeros have no sign.
	switch quarters {
	case 1:
		return NarrowComplex(complex(0-s, c))
	case 2:
		return NarrowComplex(complex(0-c, 0-s))
	case 3:
		return NarrowComplex(complex(s, 0-c))
	}
	return NarrowComplex(complex(c, s))
}

// AngleOf returns the angle in turns.
func AngleOf(x complex64) float32 {
	return AngleTurns(imag(x), real(x))
}

// AngleTurns returns the angle of a point.
func AngleTurns(y, x float32) float32 {
	if !IsFinite(y) || !IsFinite(x) {
		return float32(math.NaN())
	}
	if y == 0 && x == 0 {
		return 0
	}
	a, b := math.Abs(float64(y)), math.Abs(float64(x))
	var angle float64
	if a > b {
		angle = 0.25 - flatAngle(b/a)
	} else {
		angle = flatAngle(a / b)
	}
	if x < 0 {
		angle = 0.5 - angle
	}
	if y < 0 {
		angle = -angle
	}
	return NarrowNumber(angle)
}

// flatAngle returns the angle, in turns, whose tangent is t, from 0 to 1.
func flatAngle(t float64) float64 {
	const circle = 6.283185307179586
	// Each time halves the angle; the factor 8 takes all three back.
	for range 3 {
		t = t / (1 + math.Sqrt(1+float64(t*t)))
	}
	u := float64(t * t)
	p := 0.0
	for k := 15; k >= 1; k -= 2 {
		p = 1/float64(k) - float64(u*p)
	}
	return float64(8*float64(t*p)) / circle
}

// TenthsOf returns tenths of decibels.
func TenthsOf(power float32) (int64, bool) {
	if !IsFinite(power) || power <= 0 {
		return 0, false
	}
	tenths := float64(logOf(float64(power))*43.42944819032518) + 0.5
	return int64(math.Floor(tenths)), true
}

// logOf returns the natural logarithm of a power that is finite and greater than 0.
func logOf(power float64) float64 {
	x, e := power, 0
	for x >= 1.5 {
		x /= 2
		e++
	}
	for x < 0.75 {
		x *= 2
		e--
	}
	s := (x - 1) / (x + 1)
	u := float64(s * s)
	q := 0.0
	for k := 25; k >= 1; k -= 2 {
		q = 1/float64(k) + float64(u*q)
	}
	return float64(2*float64(s*q)) + float64(float64(e)*0.6931471805599453)
}

// sumOf returns the sum from left to right, from +0 on, of lists of both kinds of numbers.
func sumOf[N number](list []N) (N, bool) {
	var sum N
	if len(list) > MaxNumbers {
		return 0, false
	}
	for _, x := range list {
		sum += x
	}
	return sum, true
}

// dotOf returns the sum of products from left to right, from +0 on, with the given way to make a product.
func dotOf[N number](a, b []N, product func(x, y N) N) (N, bool) {
	var sum N
	if len(a) > MaxNumbers || len(a) != len(b) {
		return 0, false
	}
	for i, x := range a {
		sum += product(x, b[i])
	}
	return sum, true
}

// SumNumbers returns the sum from left to right.
func SumNumbers(list []float32) (float32, bool) {
	return sumOf(list)
}

// DotNumbers returns the sum of products.
func DotNumbers(a, b []float32) (float32, bool) {
	return dotOf(a, b, mulNumbers)
}

// SumComplex returns the sum from left to right.
func SumComplex(list []complex64) (complex64, bool) {
	return sumOf(list)
}

// DotComplex returns the sum of products.
func DotComplex(a, b []complex64) (complex64, bool) {
	return dotOf(a, b, MulComplex)
}

// DotConjugate returns the sum of products with conjugates.
func DotConjugate(a, b []complex64) (complex64, bool) {
	return dotOf(a, b, mulConjugate)
}

// mulConjugate returns the product of the conjugate of x and y.
func mulConjugate(x, y complex64) complex64 {
	return MulComplex(ConjugateOf(x), y)
}

// PowersOf returns the sum of powers.
func PowersOf(list []complex64) (float32, bool) {
	if len(list) > MaxNumbers {
		return 0, false
	}
	sum := 0.0
	for _, x := range list {
		sum += widePower(x)
	}
	return NarrowNumber(sum), true
}

// joinTexts returns the text of a list of at most the given length, each item of which has a text of its own.
func joinTexts[T any](list []T, most int, textOf func(T) (string, bool)) (string, bool) {
	if len(list) > most {
		return "", false
	}
	if len(list) == 0 {
		return "none", true
	}
	parts := make([]string, 0, len(list))
	for _, x := range list {
		part, ok := textOf(x)
		if !ok {
			return "", false
		}
		parts = append(parts, part)
	}
	return strings.Join(parts, ","), true
}

// splitTexts returns the list of at most the given length whose text is s.
func splitTexts[T any](s string, most int, read func(string) (T, bool)) ([]T, bool) {
	if s == "none" {
		return []T{}, true
	}
	parts := strings.SplitN(s, ",", most+1)
	if len(parts) > most {
		return nil, false
	}
	list := make([]T, 0, len(parts))
	for _, part := range parts {
		x, ok := read(part)
		if !ok {
			return nil, false
		}
		list = append(list, x)
	}
	return list, true
}

// numberText returns the 8 digits of a number, which each number has.
func numberText(x float32) (string, bool) {
	digits := strconv.FormatInt(BitsOf(x), 16)
	return strings.Repeat("0", 8-len(digits)) + digits, true
}

// readNumber returns the number with the given 8 digits.
func readNumber(s string) (float32, bool) {
	n, err := strconv.ParseUint(s, 16, 32)
	if err != nil {
		return 0, false
	}
	x := math.Float32frombits(uint32(n))
	// Capital digits and the other bits of not-a-numbers are in no text.
	if text, _ := numberText(x); text != s {
		return 0, false
	}
	return x, true
}

// NumbersText returns the text of numbers.
func NumbersText(list []float32) (string, bool) {
	return joinTexts(list, MaxNumbers, numberText)
}

// ReadNumbers returns the numbers with the given text.
func ReadNumbers(s string) ([]float32, bool) {
	return splitTexts(s, MaxNumbers, readNumber)
}

// partsText returns the digits of both parts of a complex number, which each one has.
func partsText(x complex64) (string, bool) {
	first, _ := numberText(real(x))
	second, _ := numberText(imag(x))
	return first + second, true
}

// readParts returns the complex number with the given 16 digits.
func readParts(s string) (complex64, bool) {
	if len(s) != 16 {
		return 0, false
	}
	re, one := readNumber(s[:8])
	im, two := readNumber(s[8:])
	if !one || !two {
		return 0, false
	}
	return complex(re, im), true
}

// ComplexText returns the text of complex numbers.
func ComplexText(list []complex64) (string, bool) {
	return joinTexts(list, MaxNumbers, partsText)
}

// ReadComplex returns the complex numbers with the given text.
func ReadComplex(s string) ([]complex64, bool) {
	return splitTexts(s, MaxNumbers, readParts)
}

// IsName reports whether s is a name.
func IsName(s string) bool {
	if len(s) < 1 || len(s) > 8 {
		return false
	}
	for i := range len(s) {
		if s[i] < 'a' || s[i] > 'z' {
			return false
		}
	}
	return true
}

// Decimal returns n in decimal.
func Decimal(n int64) string {
	return strconv.FormatInt(n, 10)
}

// isValue reports whether n is a number that texts may have.
func isValue(n int64) bool {
	return n >= -MaxValue && n <= MaxValue
}

// ReadDecimal returns the number with the given decimal text.
func ReadDecimal(s string) (int64, bool) {
	n, err := strconv.ParseInt(s, 10, 64)
	// Signs and zeros in front that Decimal does not write are in no text.
	if err != nil || !isValue(n) || Decimal(n) != s {
		return 0, false
	}
	return n, true
}

// valueText returns the text of a number in a list of integers.
func valueText(n int64) (string, bool) {
	if !isValue(n) {
		return "", false
	}
	return Decimal(n), true
}

// ListText returns the text of a list.
func ListText(list []int64) (string, bool) {
	return joinTexts(list, MaxItems, valueText)
}

// ReadList returns the list with the given text.
func ReadList(s string) ([]int64, bool) {
	return splitTexts(s, MaxItems, ReadDecimal)
}

// CheckOf returns the check number of a text.
func CheckOf(start int64, s string) (int64, bool) {
	if start < 0 || start >= CheckSize {
		return 0, false
	}
	check := start
	for i := range len(s) {
		check = (761*check + int64(s[i]) + 83) % CheckSize
	}
	return check, true
}
