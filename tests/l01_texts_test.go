package tests

import (
	"math"
	"slices"
	"strings"
	"testing"

	"loop.example/g01256/impl"
)

// repeated returns the text of a list that has the same item n times.
func repeated(item string, n int) string {
	return strings.TrimSuffix(strings.Repeat(item+",", n), ",")
}

func wantText(t *testing.T, got string, ok bool, wanted string) {
	t.Helper()
	if !ok || got != wanted {
		t.Errorf("got %.60q %v, want %.60q", got, ok, wanted)
	}
}

func wantNoText(t *testing.T, got string, ok bool) {
	t.Helper()
	if ok || got != "" {
		t.Errorf("got %.60q %v, want none", got, ok)
	}
}

// sameNumbers compares without the program.
func sameNumbers(a, b []float32) bool {
	return slices.EqualFunc(a, b, func(x, y float32) bool { return bitsOf(x) == bitsOf(y) })
}

func sameComplexes(a, b []complex64) bool {
	return slices.EqualFunc(a, b, func(x, y complex64) bool {
		return bitsOf(real(x)) == bitsOf(real(y)) && bitsOf(imag(x)) == bitsOf(imag(y))
	})
}

func TestNumbersText(t *testing.T) {
	for _, c := range []struct {
		list []float32
		want string
	}{
		{nil, "none"}, {[]float32{}, "none"}, {[]float32{1, -2}, "3f800000,c0000000"},
		{[]float32{0, num(minusZero)}, "00000000,80000000"}, {[]float32{num(leastSub), num(0x807fffff)}, "00000001,807fffff"},
		{[]float32{num(plusInf), num(minusInf), num(greatest)}, "7f800000,ff800000,7f7fffff"},
		{[]float32{num(aNaN), num(0xffffffff), num(0x7f800001)}, "7fc00000,7fc00000,7fc00000"},
		{[]float32{num(0x0abcdef0)}, "0abcdef0"}, {ones(impl.MaxNumbers), repeated("3f800000", impl.MaxNumbers)},
	} {
		got, ok := impl.NumbersText(c.list)
		wantText(t, got, ok, c.want)
		list, ok := impl.ReadNumbers(c.want)
		if !ok || !sameNumbers(list, c.list) {
			t.Errorf("%.60q is read as %v %v", c.want, list, ok)
		}
	}
	got, ok := impl.NumbersText(ones(impl.MaxNumbers + 1))
	wantNoText(t, got, ok)
}

// wrongDigits are texts that are nearly the 8 digits of a number.
func wrongDigits() []string {
	return []string{
		"", " ", "3f80000", "3f8000000", "03f800000", "3F800000", "3f80000g", "3f80000G", " 3f800000", "3f800000 ", "3f800000\n", "3f80 000",
		"+f800000", "-f800000", "+3f80000", "-3f80000", "0x3f8000", "0X3F8000", "3f_80000", "3f80000\x00", "3f8000\xc3\xa9", "1", "1065353216", "NaN",
		"7fc00001", "7f800001", "7fffffff", "ff800001", "ffc00000", "ffffffff",
	}
}

// wrongLists are texts that are nearly those of a list with the given item.
func wrongLists(item string, most int) []string {
	return []string{
		",", item + ",", "," + item, item + ",," + item, item + ", " + item, item + ";" + item, item + item, item + " " + item, item + ",none", "none," + item,
		"None", "none,", ",none", "none,none", "none ", " none", "nonenone", "non", "nil",
		repeated(item, most+1), repeated(item, most) + ",", repeated(item, 5*most), strings.Repeat(",", 100000),
	}
}

func TestReadNumbersFailsForOtherTexts(t *testing.T) {
	texts := append(wrongLists("3f800000", impl.MaxNumbers), "3f80000000000000")
	for _, s := range wrongDigits() {
		texts = append(texts, s, s+",3f800000", "3f800000,"+s)
	}
	for _, s := range texts {
		if list, ok := impl.ReadNumbers(s); ok || len(list) != 0 {
			t.Errorf("%.60q is read as %v %v", s, list, ok)
		}
	}
}

func TestComplexText(t *testing.T) {
	for _, c := range []struct {
		list []complex64
		want string
	}{
		{nil, "none"}, {[]complex64{}, "none"}, {[]complex64{1}, "3f80000000000000"},
		{[]complex64{1, complex(0, -2)}, "3f80000000000000,00000000c0000000"}, {[]complex64{comp(minusZero, plusZero), comp(plusZero, minusZero)}, "8000000000000000,0000000080000000"},
		{[]complex64{comp(leastSub, 0x807fffff)}, "00000001807fffff"}, {[]complex64{comp(plusInf, minusInf)}, "7f800000ff800000"},
		{[]complex64{comp(0xffffffff, 0x3f800000), comp(0x3f800000, 0x7f800001)}, "7fc000003f800000,3f8000007fc00000"},
		{complexOnes(impl.MaxNumbers), repeated("3f80000040000000", impl.MaxNumbers)},
	} {
		got, ok := impl.ComplexText(c.list)
		wantText(t, got, ok, c.want)
		list, ok := impl.ReadComplex(c.want)
		if !ok || !sameComplexes(list, c.list) {
			t.Errorf("%.60q is read as %v %v", c.want, list, ok)
		}
	}
	got, ok := impl.ComplexText(complexOnes(impl.MaxNumbers + 1))
	wantNoText(t, got, ok)
}

func TestReadComplexFailsForOtherTexts(t *testing.T) {
	one := "3f80000040000000"
	texts := append(wrongLists(one, impl.MaxNumbers), "3f800000", "3f800000,40000000", one[:15], one+"0", "3f800000 40000000", one+"3f800000", "3f8000000 4000000")
	for _, s := range wrongDigits() {
		texts = append(texts, "3f800000"+s, s+"3f800000", one+","+s)
	}
	for _, s := range texts {
		if list, ok := impl.ReadComplex(s); ok || len(list) != 0 {
			t.Errorf("%.60q is read as %v %v", s, list, ok)
		}
	}
}

func TestIsName(t *testing.T) {
	for _, s := range []string{"a", "z", "ring", "abcdefgh", "zzzzzzzz"} {
		want(t, s, impl.IsName(s), true)
	}
	for _, s := range []string{
		"", "abcdefghi", strings.Repeat("a", 100000), "A", "Ring", "rinG", "r1ng", "ri ng", " ring", "ring ", "ring\n", "`", "{", "a`", "a{", "\x00", "ri\x00ng",
		"\xc3\xa9", "\xff", "a_b", "a-b", "\u0430",
	} {
		want(t, s, impl.IsName(s), false)
	}
}

// decimals has the numbers that both Decimal and ReadDecimal know.
func decimals() map[string]int64 {
	return map[string]int64{
		"0": 0, "1": 1, "-1": -1, "9": 9, "10": 10, "-4": -4, "-10": -10, "65003": 65003, "-123456789": -123456789,
		"999999999999999": 999999999999999, "1000000000000000": impl.MaxValue, "-1000000000000000": -impl.MaxValue,
	}
}

func TestDecimal(t *testing.T) {
	for s, n := range decimals() {
		want(t, "decimal", impl.Decimal(n), s)
	}
	want(t, "least", impl.Decimal(math.MinInt64), "-9223372036854775808")
	want(t, "greatest", impl.Decimal(math.MaxInt64), "9223372036854775807")
	want(t, "beyond MaxValue", impl.Decimal(impl.MaxValue+1), "1000000000000001")
}

// wrongDecimals are texts that are nearly those of a number.
func wrongDecimals() []string {
	return []string{
		"", "-", "+", "+1", "-0", "+0", "00", "01", "-01", "007", "--1", "1-", " 1", "1 ", "1\n", "\t1", "1.", "1.0", ".5", "1e3", "0x1", "0b1", "0o7", "1_000", "1,", "a", "one",
		"1000000000000001", "-1000000000000001", "01000000000000000", "9223372036854775807", "9223372036854775808", "-9223372036854775808", "-9223372036854775809",
		"18446744073709551616", "18446744073709551617", strings.Repeat("1", 1000), strings.Repeat("0", 1000), "\u0661", "\uff11", "1\x00", "\xff",
	}
}

func TestReadDecimal(t *testing.T) {
	for s, n := range decimals() {
		got, ok := impl.ReadDecimal(s)
		if !ok || got != n {
			t.Errorf("%q is read as %v %v", s, got, ok)
		}
	}
	for _, s := range wrongDecimals() {
		if got, ok := impl.ReadDecimal(s); ok || got != 0 {
			t.Errorf("%.60q is read as %v %v", s, got, ok)
		}
	}
}

func TestListText(t *testing.T) {
	for _, c := range []struct {
		list []int64
		want string
	}{
		{nil, "none"}, {[]int64{}, "none"}, {[]int64{0}, "0"}, {[]int64{1, -2, 30}, "1,-2,30"}, {[]int64{3, 3, 1}, "3,3,1"},
		{[]int64{impl.MaxValue, -impl.MaxValue}, "1000000000000000,-1000000000000000"}, {make([]int64, impl.MaxItems), repeated("0", impl.MaxItems)},
	} {
		got, ok := impl.ListText(c.list)
		wantText(t, got, ok, c.want)
		list, ok := impl.ReadList(c.want)
		if !ok || !slices.Equal(list, c.list) {
			t.Errorf("%.60q is read as %v %v", c.want, list, ok)
		}
	}
	for _, list := range [][]int64{
		make([]int64, impl.MaxItems+1), {impl.MaxValue + 1}, {-impl.MaxValue - 1}, {1, 2, impl.MaxValue + 1}, {impl.MaxValue + 1, 1}, {math.MinInt64}, {math.MaxInt64},
	} {
		got, ok := impl.ListText(list)
		wantNoText(t, got, ok)
	}
}

func TestReadListFailsForOtherTexts(t *testing.T) {
	texts := wrongLists("7", impl.MaxItems)
	texts = slices.DeleteFunc(texts, func(s string) bool { return s == "77" })
	for _, s := range wrongDecimals() {
		if s != "1," {
			texts = append(texts, s, s+",1", "1,"+s)
		}
	}
	for _, s := range texts {
		if list, ok := impl.ReadList(s); ok || len(list) != 0 {
			t.Errorf("%.60q is read as %v %v", s, list, ok)
		}
	}
}

func TestCheckOf(t *testing.T) {
	for _, c := range []struct {
		start int64
		s     string
		want  int64
	}{
		{0, "", 0}, {65002, "", 65002}, {0, "a", 180}, {0, "ab", 7155}, {0, "ba", 7915}, {65002, "a", 64422},
		{1, "\x00\xff\n", 17866}, {0, "blades and wind", 20086}, {12345, "\xc3\xa9", 40597},
	} {
		got, ok := impl.CheckOf(c.start, c.s)
		if !ok || got != c.want {
			t.Errorf("check of %q from %v: got %v %v, want %v", c.s, c.start, got, ok, c.want)
		}
	}
	for _, start := range []int64{-1, impl.CheckSize, impl.CheckSize + 1, math.MinInt64, math.MaxInt64} {
		for _, s := range []string{"", "a"} {
			got, ok := impl.CheckOf(start, s)
			wantNoSum(t, "check from a wrong start", got, ok)
		}
	}
}

func TestCheckOfGoesOn(t *testing.T) {
	first, _ := impl.CheckOf(7, "blades ")
	second, _ := impl.CheckOf(first, "and wind")
	whole, _ := impl.CheckOf(7, "blades and wind")
	want(t, "check of both parts", second, whole)
	long, ok := impl.CheckOf(65002, strings.Repeat("\xff", 100000))
	if !ok || long < 0 || long >= impl.CheckSize {
		t.Errorf("check of a long text: got %v %v", long, ok)
	}
}
