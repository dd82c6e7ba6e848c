package tests

import (
	"math"
	"slices"
	"strings"
	"testing"
	"time"

	"loop.example/g01256/impl"
)

// within fails the test if what is done does not end soon.
func within(t *testing.T, do func()) {
	t.Helper()
	done := make(chan any, 1)
	go func() {
		defer func() { done <- recover() }()
		do()
	}()
	select {
	case p := <-done:
		if p != nil {
			t.Fatalf("panic: %v", p)
		}
	case <-time.After(60 * time.Second):
		t.Fatal("it does not return")
	}
}

func flag(b bool) int64 {
	if b {
		return 1
	}
	return 0
}

func partsOf(list ...complex64) []int64 {
	var out []int64
	for _, x := range list {
		out = append(out, int64(bitsOf(real(x))), int64(bitsOf(imag(x))))
	}
	return out
}

// results has what all functions with single numbers tell of four of them.
func results(a, b, c, d uint32) []int64 {
	x, y := comp(a, b), comp(c, d)
	wide := math.Float64frombits(joined(a, b))
	whole := int64(joined(a, b))
	from, one := impl.FromBits(whole)
	tenths, two := impl.TenthsOf(num(a))
	check, three := impl.CheckOf(whole, "a")
	out := partsOf(
		impl.MulComplex(x, y), impl.QuotientOf(x, y), impl.ScaleComplex(x, num(c)), impl.ConjugateOf(x), impl.PhasorOf(wide), impl.PhasorOf(float64(num(a))),
		impl.NarrowComplex(complex(wide, float64(num(c)))), complex(impl.PowerOf(x), impl.LongOf(x)), complex(impl.AngleOf(x), impl.AngleTurns(num(c), num(d))),
		complex(impl.SineTurns(num(a)), impl.RootNumber(num(a))), complex(impl.FlushNumber(num(a)), impl.NarrowNumber(wide)), complex(from, 0),
	)
	out = append(out, impl.BitsOf(num(a)), tenths, check, flag(one), flag(two), flag(three), flag(impl.SameNumber(num(a), num(b))), flag(impl.SameComplex(x, y)))
	out = append(out, flag(impl.IsFinite(num(a))), flag(impl.IsFiniteComplex(x)), flag(impl.IsSubnormal(num(a))), int64(len(impl.Decimal(whole))))
	return out
}

// joined joins two numbers of 32 bits to one of 64.
func joined(a, b uint32) uint64 { return uint64(a)<<32 | uint64(b) }

func TestPromise1NumbersReturnTheSameAgain(t *testing.T) {
	list := specialBits()
	n := noise(4)
	for range 40 {
		list = append(list, n.next())
	}
	within(t, func() {
		var first [][]int64
		for i, a := range list {
			for j, b := range list {
				first = append(first, results(a, b, list[(i+j)%len(list)], list[(i*5+j*3)%len(list)]))
			}
		}
		// In the opposite order, so that anything that is kept from call to call is another thing.
		for i := len(list) - 1; i >= 0; i-- {
			for j := len(list) - 1; j >= 0; j-- {
				again := results(list[i], list[j], list[(i+j)%len(list)], list[(i*5+j*3)%len(list)])
				if !slices.Equal(again, first[i*len(list)+j]) {
					t.Errorf("%08x %08x: got %v, then %v", list[i], list[j], first[i*len(list)+j], again)
				}
			}
		}
	})
}

// listResults has what all functions with lists tell of some.
func listResults(a, b []float32, x, y []complex64, n []int64) ([]int64, string) {
	sum, one := impl.SumNumbers(a)
	dot, two := impl.DotNumbers(a, b)
	csum, three := impl.SumComplex(x)
	cdot, four := impl.DotComplex(x, y)
	con, five := impl.DotConjugate(x, y)
	powers, six := impl.PowersOf(x)
	numbers, seven := impl.NumbersText(a)
	parts, eight := impl.ComplexText(x)
	list, nine := impl.ListText(n)
	out := partsOf(complex(sum, dot), csum, cdot, con, complex(powers, 0))
	for _, ok := range []bool{one, two, three, four, five, six, seven, eight, nine} {
		out = append(out, flag(ok))
	}
	return out, numbers + ";" + parts + ";" + list
}

// spare returns a copy of a list with room behind it that holds a sign of its own.
func spare[T any](list []T, sign T) []T {
	room := append(slices.Clone(list), sign, sign, sign, sign)
	return room[:len(list)]
}

func TestPromise1ListsAreLeftAlone(t *testing.T) {
	n := noise(5)
	for _, size := range []int{0, 1, 2, 7, impl.MaxItems, impl.MaxItems + 1, impl.MaxNumbers, impl.MaxNumbers + 1, 1000} {
		var a, b []float32
		var x, y []complex64
		var ints []int64
		for range size {
			a, b = append(a, num(n.next())), append(b, n.between())
			x, y = append(x, comp(n.next(), n.next())), append(y, complex(n.between(), n.between()))
			ints = append(ints, int64(n.small(1000)))
		}
		wantNumbers, wantTexts := listResults(slices.Clone(a), slices.Clone(b), slices.Clone(x), slices.Clone(y), slices.Clone(ints))
		a1, b1, x1, y1, ints1 := spare(a, 77), spare(b, 77), spare(x, 77), spare(y, 77), spare(ints, 77)
		gotNumbers, gotTexts := listResults(a1, b1, x1, y1, ints1)
		if !slices.Equal(gotNumbers, wantNumbers) || gotTexts != wantTexts {
			t.Errorf("lists of %v numbers: got other results with room behind them", size)
		}
		full := size + 4
		left := sameNumbers(a1[:full], append(slices.Clone(a), 77, 77, 77, 77)) && sameNumbers(b1[:full], append(slices.Clone(b), 77, 77, 77, 77)) &&
			sameComplexes(x1[:full], append(slices.Clone(x), 77, 77, 77, 77)) && sameComplexes(y1[:full], append(slices.Clone(y), 77, 77, 77, 77)) &&
			slices.Equal(ints1[:full], append(slices.Clone(ints), 77, 77, 77, 77))
		want(t, "lists are left alone", left, true)
	}
}

// wantOwnMemory changes a list that was read, with the room behind it, and reads it again.
func wantOwnMemory[T comparable](t *testing.T, s string, other T, read func(string) ([]T, bool)) {
	t.Helper()
	first, _ := read(s)
	kept := slices.Clone(first)
	second, _ := read(s)
	for i := range first[:cap(first)] {
		first[:cap(first)][i] = other
	}
	third, ok := read(s)
	if !ok || !slices.Equal(second, kept) || !slices.Equal(third, kept) {
		t.Errorf("%q: read as %v, then %v and %v", s, kept, second, third)
	}
}

func TestPromise1ResultsShareNoMemory(t *testing.T) {
	for _, s := range []string{"none", "3f800000", "3f800000,c0000000,00000000"} {
		wantOwnMemory(t, s, 77, impl.ReadNumbers)
	}
	for _, s := range []string{"none", "3f80000040000000", "3f80000040000000,0000000000000000"} {
		wantOwnMemory(t, s, 77, impl.ReadComplex)
	}
	for _, s := range []string{"none", "5", "5,-6,7"} {
		wantOwnMemory(t, s, 77, impl.ReadList)
	}
}

// readResults has what all functions with texts tell of one.
func readResults(s string) string {
	var out strings.Builder
	numbers, one := impl.ReadNumbers(s)
	parts, two := impl.ReadComplex(s)
	list, three := impl.ReadList(s)
	n, four := impl.ReadDecimal(s)
	check, five := impl.CheckOf(0, s)
	for _, x := range numbers {
		out.WriteString(impl.Decimal(int64(bitsOf(x))) + " ")
	}
	for _, n := range append(append(partsOf(parts...), list...), n, check, int64(len(numbers)), int64(len(parts)), int64(len(list))) {
		out.WriteString(impl.Decimal(n) + " ")
	}
	for _, ok := range []bool{one, two, three, four, five, impl.IsName(s)} {
		out.WriteString(impl.Decimal(flag(ok)))
	}
	return out.String()
}

func TestPromise1TextsReturnTheSameAgain(t *testing.T) {
	texts := append(append(wrongDigits(), wrongDecimals()...), wrongLists("3f800000", impl.MaxNumbers)...)
	texts = append(texts, "none", "3f800000,c0000000", "3f80000040000000", "1,2,3", "-1000000000000000", "ring", strings.Repeat("\xff", 1<<20), strings.Repeat("1,", 1<<20))
	for b := range 256 {
		texts = append(texts, string([]byte{byte(b)}), "3f80000"+string([]byte{byte(b)}))
	}
	within(t, func() {
		var first []string
		for _, s := range texts {
			first = append(first, readResults(s))
		}
		for i := len(texts) - 1; i >= 0; i-- {
			if again := readResults(texts[i]); again != first[i] {
				t.Errorf("%.60q: got %v, then %v", texts[i], first[i], again)
			}
		}
	})
}

func TestPromise2NumbersAreToldByTheirBits(t *testing.T) {
	n := noise(6)
	list := specialBits()
	for range 20000 {
		list = append(list, n.next())
	}
	for i, bits := range list {
		told := int64(bits)
		if bits&0x7fffffff > plusInf {
			told = 2143289344
		}
		x, ok := impl.FromBits(int64(bits))
		if !ok || impl.BitsOf(x) != told {
			t.Fatalf("the bits %08x: got %08x %v", bits, impl.BitsOf(x), ok)
		}
		other := num(list[(i+1)%len(list)])
		want(t, "same as itself", impl.SameNumber(x, num(bits)), true)
		want(t, "same as another", impl.SameNumber(x, other), bitsOf(x) == bitsOf(other))
		want(t, "same complex as another", impl.SameComplex(complex(1, x), complex(1, other)), bitsOf(x) == bitsOf(other))
		text, one := impl.NumbersText([]float32{x, other})
		back, two := impl.ReadNumbers(text)
		if !one || !two || !sameNumbers(back, []float32{x, other}) {
			t.Fatalf("%08x: text %q is read as %v", bits, text, back)
		}
		text, one = impl.ComplexText([]complex64{complex(x, other)})
		parts, two := impl.ReadComplex(text)
		if !one || !two || !sameComplexes(parts, []complex64{complex(x, other)}) {
			t.Fatalf("%08x: text %q is read as %v", bits, text, parts)
		}
	}
}

func TestPromise2ProductsOfSmallIntegersAreExact(t *testing.T) {
	n := noise(7)
	for i := range 40000 {
		most := []int{9, 100, 2000}[i%3]
		a, b, c, d := n.small(most), n.small(most), n.small(most), n.small(most)
		x, y := complex(float32(a), float32(b)), complex(float32(c), float32(d))
		product := complex(float32(a*c-b*d), float32(a*d+b*c))
		want(t, "product", impl.MulComplex(x, y), product)
		want(t, "scaled", impl.ScaleComplex(x, float32(c)), complex(float32(a*c), float32(b*c)))
		want(t, "power", impl.PowerOf(x), float32(a*a+b*b))
		want(t, "long", impl.LongOf(complex(float32(3*a), float32(4*a))), float32(5*max(a, -a)))
		want(t, "root", impl.RootNumber(float32(a*a)), float32(max(a, -a)))
		dot, ok := impl.DotNumbers([]float32{float32(a), float32(b)}, []float32{float32(c), float32(d)})
		want(t, "sum of products", dot, float32(a*c+b*d))
		want(t, "success", ok, true)
		if y != 0 {
			want(t, "quotient", impl.QuotientOf(product, y), x)
		}
		sum, _ := impl.DotComplex([]complex64{x, 1}, []complex64{y, y})
		want(t, "sum of complex products", sum, product+y)
		sum, _ = impl.DotConjugate([]complex64{x}, []complex64{y})
		want(t, "product with conjugate", sum, complex(float32(a*c+b*d), float32(a*d-b*c)))
	}
}
