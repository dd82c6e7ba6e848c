package tests

import (
	"slices"
	"testing"

	"loop.example/g01256/impl"
)

// The expected bits in the tables of this chapter were computed from the document by a second implementation, in another language.

// gusty, wild and fine are loads without any simple rule; those of fine differ in their last bits alone.
func gusty() []float32 {
	return []float32{3.1, 0.7, 9.3, -4.4, 2.2, 8.8, 0.1, 5.9, 7.7, -6.05, 1.3, 1.3, 4.9, 4.1, 6.2, 12.7, -0.3}
}

func wild() []float32 {
	return []float32{-1203.7, 45.1, 0.003, 977.31, -0.25, 33.33, -1e-7, 812.9, -815.2, 64.6, -3.3, 700.1, 12.1, 12.2, 13.9, -977, 5e4, 4.99e4, 1e-30, 7}
}

func fine() []float32 {
	return []float32{1.1, 1.1000001, 1.0999999, 1.1000003, 1.0999998, 1.1000005, 1.1, 1.0999994, 1.1000007}
}

func whole(low, high float32) impl.Cycle { return impl.Cycle{Low: low, High: high, Whole: true} }

func half(low, high float32) impl.Cycle { return impl.Cycle{Low: low, High: high} }

func gustyCycles() []impl.Cycle {
	return []impl.Cycle{half(0.7, 3.1), half(0.7, 9.3), whole(0.1, 7.7), whole(-4.4, 8.8), whole(4.1, 4.9), half(-6.05, 9.3), half(-6.05, 12.7), half(-0.3, 12.7)}
}

func wildCycles() []impl.Cycle {
	return []impl.Cycle{
		whole(0.003, 45.1), whole(-1e-7, 33.33), whole(-0.25, 812.9), whole(-3.3, 64.6), whole(12.1, 13.9), whole(-815.2, 700.1),
		whole(-977, 977.31), half(-1203.7, 50000), half(1e-30, 50000), half(1e-30, 7),
	}
}

func fineCycles() []impl.Cycle {
	return []impl.Cycle{
		half(1.1, 1.1000001), half(1.0999999, 1.1000001), half(1.0999999, 1.1000003), half(1.0999998, 1.1000003),
		half(1.0999998, 1.1000005), half(1.0999994, 1.1000005), half(1.0999994, 1.1000007),
	}
}

// sameCycles does not use the program, so that a wrong SameCycles is not held against itself.
func sameCycles(a, b []impl.Cycle) bool {
	return slices.EqualFunc(a, b, func(x, y impl.Cycle) bool {
		return bitsOf(x.Low) == bitsOf(y.Low) && bitsOf(x.High) == bitsOf(y.High) && x.Whole == y.Whole
	})
}

func wantCycles(t *testing.T, what string, got []impl.Cycle, ok bool, wanted ...impl.Cycle) {
	t.Helper()
	if !ok || !sameCycles(got, wanted) {
		t.Errorf("%s: got %v %v, want %v", what, got, ok, wanted)
	}
}

func wantNoCycles(t *testing.T, what string, got []impl.Cycle, ok bool) {
	t.Helper()
	if ok || len(got) > 0 {
		t.Errorf("%s: got %v %v, want none", what, got, ok)
	}
}

// wrongLoads returns lists each of which has one thing that loads have not.
func wrongLoads() [][]float32 {
	wrong := [][]float32{nil, {}, ones(impl.MaxLoads + 1), ones(impl.MaxLoads + 2), ones(1000)}
	for _, x := range notFinite() {
		for i := range 3 {
			list := ones(3)
			list[i] = x
			wrong = append(wrong, list)
		}
		long := ones(impl.MaxLoads)
		long[impl.MaxLoads-1] = x
		wrong = append(wrong, long, []float32{x})
	}
	return wrong
}

// zigzag returns count loads that go to and fro between two.
func zigzag(count int, low, high float32) []float32 {
	list := make([]float32, count)
	for i := range list {
		list[i] = []float32{low, high}[i%2]
	}
	return list
}

// narrowing returns count loads each way between which is less than the one before.
func narrowing(count int) []float32 {
	list := make([]float32, count)
	for i := range list {
		list[i] = float32(count-i) * float32(1-2*(i%2))
	}
	return list
}

// widening returns the same loads in the opposite order.
func widening(count int) []float32 {
	list := narrowing(count)
	slices.Reverse(list)
	return list
}

// stairs returns count loads from first on that go up, or down, by step.
func stairs(count int, first, step float32) []float32 {
	list := make([]float32, count)
	for i := range list {
		list[i] = first + float32(i)*step
	}
	return list
}

// anyLoads returns count loads from a few integers, so that many of them stay, and many ranges are equal.
func anyLoads(n *noise, count, most int) []float32 {
	list := make([]float32, count)
	for i := range list {
		list[i] = float32(n.small(most))
	}
	return list
}

func TestLimitsOfLoads(t *testing.T) {
	want(t, "MaxLoads", int64(impl.MaxLoads), 64)
	want(t, "MaxCycles", int64(impl.MaxCycles), 64)
	want(t, "MaxBins", int64(impl.MaxBins), 32)
}

type endsCase struct {
	loads, ends []float32
}

func endsCases() []endsCase {
	zero, tiny, most := num(minusZero), num(leastSub), num(greatest)
	return []endsCase{
		{[]float32{7}, []float32{7}}, {[]float32{0}, []float32{0}}, {[]float32{zero}, []float32{zero}}, {[]float32{1, 2}, []float32{1, 2}}, {[]float32{2, 1}, []float32{2, 1}},
		// Loads that stay: from the first one on, at an end, at the last one, and on a way.
		{[]float32{3, 3}, []float32{3}}, {[]float32{3, 3, 3, 3}, []float32{3}}, {[]float32{1, 1, 2}, []float32{1, 2}}, {[]float32{2, 2, 1}, []float32{2, 1}}, {[]float32{0, 2, 2, 1}, []float32{0, 2, 1}}, {[]float32{0, 2, 2, 2, 2, 1, 1}, []float32{0, 2, 1}},
		{[]float32{0, 1, 1, 2}, []float32{0, 2}}, {[]float32{2, 1, 1, 0}, []float32{2, 0}}, {[]float32{0, 1, 2, 1, 3, 3}, []float32{0, 2, 1, 3}}, {[]float32{0, 2, 2, 3, 3, 1, 1, 0, 0, 5}, []float32{0, 3, 0, 5}}, {[]float32{5, 5, 0, 5, 5}, []float32{5, 0, 5}},
		// Loads that only rise, or only fall.
		{[]float32{1, 2, 3, 4}, []float32{1, 4}}, {[]float32{4, 3, 2, 1}, []float32{4, 1}}, {[]float32{-1, 0, 1e-20, 1e20}, []float32{-1, 1e20}}, {stairs(impl.MaxLoads, -7, 0.5), []float32{-7, 24.5}}, {stairs(impl.MaxLoads, 7, -0.5), []float32{7, -24.5}},
		// The first of two equal zeros is kept.
		{[]float32{0, zero}, []float32{0}}, {[]float32{zero, 0}, []float32{zero}}, {[]float32{zero, 0, zero, 0}, []float32{zero}}, {[]float32{0, zero, 1}, []float32{0, 1}}, {[]float32{zero, 0, 1}, []float32{zero, 1}}, {[]float32{1, 0, zero}, []float32{1, 0}},
		{[]float32{1, 0, zero, 1}, []float32{1, 0, 1}}, {[]float32{1, zero, 0, 1}, []float32{1, zero, 1}}, {[]float32{-1, zero, 0, 1}, []float32{-1, 1}}, {[]float32{1, 0, zero, -1}, []float32{1, -1}}, {[]float32{0, 1, zero, 1, 0}, []float32{0, 1, zero, 1, 0}}, {[]float32{2, 1, zero, 0}, []float32{2, zero}},
		// At the bounds of numbers.
		{[]float32{0, tiny, 0}, []float32{0, tiny, 0}}, {[]float32{zero, tiny, -tiny, zero}, []float32{zero, tiny, -tiny, zero}}, {[]float32{-tiny, 0, tiny}, []float32{-tiny, tiny}}, {[]float32{most, -most, most}, []float32{most, -most, most}}, {[]float32{-most, 0, most}, []float32{-most, most}},
		{[]float32{1, above(1), above(above(1))}, []float32{1, above(above(1))}}, {[]float32{1, above(1), 1, below(1)}, []float32{1, above(1), below(1)}},
		// As many ends as loads, and more loads than ends.
		{zigzag(impl.MaxLoads, 0, 1), zigzag(impl.MaxLoads, 0, 1)}, {narrowing(impl.MaxLoads), narrowing(impl.MaxLoads)}, {widening(impl.MaxLoads), widening(impl.MaxLoads)}, {ones(impl.MaxLoads), ones(1)},
		{gusty(), []float32{3.1, 0.7, 9.3, -4.4, 8.8, 0.1, 7.7, -6.05, 4.9, 4.1, 12.7, -0.3}}, {fine(), []float32{1.1, 1.1000001, 1.0999999, 1.1000003, 1.0999998, 1.1000005, 1.0999994, 1.1000007}},
		{wild(), []float32{-1203.7, 45.1, 0.003, 977.31, -0.25, 33.33, -1e-7, 812.9, -815.2, 64.6, -3.3, 700.1, 12.1, 13.9, -977, 5e4, 1e-30, 7}},
	}
}

func TestEndsOf(t *testing.T) {
	for _, c := range endsCases() {
		got, ok := impl.EndsOf(c.loads)
		wantLists(t, "ends", got, nil, ok, c.ends, nil)
		// Ends have no other ends.
		got, ok = impl.EndsOf(c.ends)
		wantLists(t, "ends of ends", got, nil, ok, c.ends, nil)
	}
}

// turnsIn returns the first load of each neighbours that are equal, but those between a lesser and a greater one.
func turnsIn(loads []float32) []float32 {
	var steps, ends []float32
	for i, x := range loads {
		if i == 0 || x != loads[i-1] {
			steps = append(steps, x)
		}
	}
	for i, x := range steps {
		if i == 0 || i == len(steps)-1 || (x > steps[i-1]) == (x > steps[i+1]) {
			ends = append(ends, x)
		}
	}
	return ends
}

func TestEndsOfAnyLoads(t *testing.T) {
	n := noise(71)
	for range 3000 {
		loads := anyLoads(&n, 1+int(n.next()%impl.MaxLoads), 1+int(n.next()%6))
		got, ok := impl.EndsOf(loads)
		wantLists(t, "ends", got, nil, ok, turnsIn(loads), nil)
	}
}

func TestLoadsOfAnyCount(t *testing.T) {
	for count := range impl.MaxLoads + 5 {
		ends, ok := impl.EndsOf(zigzag(count, 0, 1))
		cycles, two := impl.CyclesOf(zigzag(count, 0, 1))
		want(t, "ends and cycles", two, ok)
		if count < 1 || count > impl.MaxLoads {
			wantNoLists(t, "too many loads, or none", ends, nil, ok)
			wantNoCycles(t, "too many loads, or none", cycles, two)
			continue
		}
		want(t, "as many ends as loads", len(ends), count)
		wantCycles(t, "equal ranges", cycles, two, slices.Repeat([]impl.Cycle{half(0, 1)}, count-1)...)
	}
}

func TestCyclesOfWrongLoads(t *testing.T) {
	for _, loads := range wrongLoads() {
		ends, ok := impl.EndsOf(loads)
		wantNoLists(t, "wrong loads", ends, nil, ok)
		cycles, ok := impl.CyclesOf(loads)
		wantNoCycles(t, "wrong loads", cycles, ok)
	}
}

type cyclesCase struct {
	loads  []float32
	cycles []impl.Cycle
}

func cyclesCases() []cyclesCase {
	zero, tiny, most := num(minusZero), num(leastSub), num(greatest)
	return []cyclesCase{
		{gusty(), gustyCycles()}, {wild(), wildCycles()}, {fine(), fineCycles()},
		// Loads without any end behind the first one, and with just one.
		{[]float32{7}, nil}, {[]float32{3, 3, 3}, nil}, {[]float32{0, zero, 0}, nil}, {ones(impl.MaxLoads), nil}, {[]float32{1, 2}, []impl.Cycle{half(1, 2)}}, {[]float32{2, 1}, []impl.Cycle{half(1, 2)}}, {[]float32{1, 2, 2, 3}, []impl.Cycle{half(1, 3)}}, {[]float32{3, 2, 2, 1}, []impl.Cycle{half(1, 3)}},
		// Ranges less than, equal to and greater than those before them.
		{[]float32{0, 2, 1}, []impl.Cycle{half(0, 2), half(1, 2)}}, {[]float32{0, 2, 0}, []impl.Cycle{half(0, 2), half(0, 2)}}, {[]float32{0, 2, -1}, []impl.Cycle{half(0, 2), half(-1, 2)}},
		{[]float32{0, 2, 1, 1.5}, []impl.Cycle{half(0, 2), half(1, 2), half(1, 1.5)}}, {[]float32{0, 2, 1, 2}, []impl.Cycle{whole(1, 2), half(0, 2)}}, {[]float32{0, 2, 1, 3}, []impl.Cycle{whole(1, 2), half(0, 3)}}, {[]float32{2, 0, 1, 0}, []impl.Cycle{whole(0, 1), half(0, 2)}},
		{[]float32{0, 2, 0, 1}, []impl.Cycle{half(0, 2), half(0, 2), half(0, 1)}}, {[]float32{0, 2, 0, 2}, []impl.Cycle{half(0, 2), half(0, 2), half(0, 2)}}, {[]float32{0, 2, -1, 3}, []impl.Cycle{half(0, 2), half(-1, 2), half(-1, 3)}},
		{[]float32{0, 5, 2, 4, 2}, []impl.Cycle{whole(2, 4), half(0, 5), half(2, 5)}}, {[]float32{0, 5, 2, 4, 2, 4}, []impl.Cycle{whole(2, 4), half(0, 5), half(2, 5), half(2, 4)}}, {[]float32{0, 5, 2, 4, 2, 5}, []impl.Cycle{whole(2, 4), whole(2, 5), half(0, 5)}},
		// A load behind which several cycles are counted, the last one of which has the first end.
		{[]float32{0, 10, 2, 8, 4, 6, 12}, []impl.Cycle{whole(4, 8), whole(2, 10), half(0, 12)}}, {[]float32{0, 10, 2, 8, 4, 6, 5}, []impl.Cycle{half(0, 10), half(2, 10), half(2, 8), half(4, 8), half(4, 6), half(5, 6)}},
		{[]float32{0, 10, 2, 8, 4, 6, -1}, []impl.Cycle{whole(4, 6), whole(2, 8), half(0, 10), half(-1, 10)}}, {[]float32{0, 10, 2, 8, 4, 6, 2}, []impl.Cycle{whole(4, 6), whole(2, 8), half(0, 10), half(2, 10)}}, {[]float32{0, 10, 2, 8, 4, 6, 3}, []impl.Cycle{whole(4, 6), half(0, 10), half(2, 10), half(2, 8), half(3, 8)}},
		{[]float32{-2, 1, -3, 5, -1, 3, -4, 4, -2}, []impl.Cycle{half(-2, 1), half(-3, 1), whole(-1, 3), half(-3, 5), half(-4, 5), half(-4, 4), half(-2, 4)}},
		{[]float32{0, 1, -1, 2, -2, 3}, []impl.Cycle{half(0, 1), half(-1, 1), half(-1, 2), half(-2, 2), half(-2, 3)}},
		// Zeros are the numbers that the ends have, and equal whatever their signs are.
		{[]float32{0, 2, zero}, []impl.Cycle{half(0, 2), half(zero, 2)}}, {[]float32{zero, -2, 0, -2}, []impl.Cycle{half(-2, zero), half(-2, 0), half(-2, 0)}}, {[]float32{3, 0, 1, zero}, []impl.Cycle{whole(0, 1), half(zero, 3)}}, {[]float32{-3, zero, -1, 0}, []impl.Cycle{whole(-1, zero), half(-3, 0)}},
		// Ranges that differ only before they are rounded are equal, and ranges beyond all numbers are, too.
		{[]float32{-0x1p-25, 1, 0, 2}, []impl.Cycle{half(-0x1p-25, 1), half(0, 1), half(0, 2)}}, {[]float32{-0x1p-23, 1, 0, 2}, []impl.Cycle{whole(0, 1), half(-0x1p-23, 2)}}, {[]float32{-5, 0x1p25, 0, 0x1p25, -5}, []impl.Cycle{whole(0, 0x1p25), half(-5, 0x1p25), half(-5, 0x1p25)}},
		{[]float32{-1, 0x1p25, 0, 0x1p26}, []impl.Cycle{half(-1, 0x1p25), half(0, 0x1p25), half(0, 0x1p26)}}, {[]float32{most, -most, most}, []impl.Cycle{half(-most, most), half(-most, most)}}, {[]float32{-most, most, below(most) * -0.5, most}, []impl.Cycle{half(-most, most), half(below(most)*-0.5, most), half(below(most)*-0.5, most)}},
		{[]float32{0, tiny, 0, -tiny}, []impl.Cycle{half(0, tiny), half(-tiny, tiny)}},
	}
}

func TestCyclesOf(t *testing.T) {
	for _, c := range cyclesCases() {
		got, ok := impl.CyclesOf(c.loads)
		wantCycles(t, "cycles", got, ok, c.cycles...)
	}
}

func TestCyclesOfManyEnds(t *testing.T) {
	// None comes back as far, so that all ends are left.
	loads := narrowing(impl.MaxLoads)
	var wanted []impl.Cycle
	for i := 1; i < len(loads); i++ {
		wanted = append(wanted, half(min(loads[i-1], loads[i]), max(loads[i-1], loads[i])))
	}
	got, ok := impl.CyclesOf(loads)
	wantCycles(t, "less and less", got, ok, wanted...)
	// Each one comes back farther, so that each end is the first one of all once.
	slices.Reverse(wanted)
	got, ok = impl.CyclesOf(widening(impl.MaxLoads))
	wantCycles(t, "more and more", got, ok, wanted...)
	// The last one comes back all the way, so that all cycles are counted behind it, from the last one on.
	loads[impl.MaxLoads-1] = -1000
	var nested []impl.Cycle
	for i := impl.MaxLoads - 3; i > 0; i -= 2 {
		nested = append(nested, whole(min(loads[i], loads[i+1]), max(loads[i], loads[i+1])))
	}
	got, ok = impl.CyclesOf(loads)
	wantCycles(t, "all at once", got, ok, append(nested, half(-1000, 64))...)
}

func TestCyclesExample(t *testing.T) {
	loads := []float32{0, 1, 2, 1, 3}
	ends, ok := impl.EndsOf(loads)
	wantLists(t, "ends", ends, nil, ok, []float32{0, 2, 1, 3}, nil)
	cycles, ok := impl.CyclesOf(loads)
	wantCycles(t, "cycles", cycles, ok, whole(1, 2), half(0, 3))
}

// oddCycles returns cycles with numbers at their bounds.
func oddCycles() []impl.Cycle {
	zero, tiny, most := num(minusZero), num(leastSub), num(greatest)
	return []impl.Cycle{
		{}, whole(0, 0), half(zero, zero), half(0, zero), whole(zero, 0), half(1, 1), whole(-1, -1), half(1, above(1)), half(-tiny, tiny), whole(0, tiny), half(-tiny, zero), whole(-most, most), half(most, most), half(-most, -most), whole(0, most), half(num(mostSub), num(leastNorm)),
	}
}

// wrongCycles returns lists with one cycle that is none, and one that is too long.
func wrongCycles() [][]impl.Cycle {
	bad := []impl.Cycle{half(1, 0), whole(1, below(1)), half(0, -num(leastSub)), half(num(leastSub), 0), whole(num(leastSub), num(minusZero)), whole(above(-1), -1)}
	for _, x := range notFinite() {
		bad = append(bad, half(x, 1), whole(0, x), half(x, x), whole(x, num(greatest)), half(-num(greatest), x))
	}
	list := [][]impl.Cycle{slices.Repeat([]impl.Cycle{whole(0, 1)}, impl.MaxCycles+1), make([]impl.Cycle, impl.MaxCycles+1), make([]impl.Cycle, 1000)}
	for _, c := range bad {
		long := slices.Repeat([]impl.Cycle{half(0, 1)}, impl.MaxCycles)
		long[impl.MaxCycles-1] = c
		list = append(list, []impl.Cycle{c}, []impl.Cycle{c, whole(0, 1)}, []impl.Cycle{whole(0, 1), c, whole(0, 1)}, []impl.Cycle{whole(0, 1), c}, long)
	}
	return list
}

func TestAreCycles(t *testing.T) {
	want(t, "no cycles", impl.AreCycles(nil) && impl.AreCycles([]impl.Cycle{}), true)
	want(t, "odd cycles", impl.AreCycles(oddCycles()), true)
	for _, c := range oddCycles() {
		want(t, "an odd cycle", impl.AreCycles([]impl.Cycle{c}), true)
	}
	for count := range impl.MaxCycles + 5 {
		want(t, "cycles of any count", impl.AreCycles(make([]impl.Cycle, count)), count <= impl.MaxCycles)
	}
	for _, c := range append(cyclesCases(), cyclesCase{nil, nil}) {
		want(t, "counted cycles", impl.AreCycles(c.cycles), true)
	}
	for _, list := range wrongCycles() {
		if impl.AreCycles(list) {
			t.Errorf("%v are no cycles", list)
		}
	}
}

func TestSameCycles(t *testing.T) {
	nan, other := num(aNaN), num(0xffc00001)
	lists := [][]impl.Cycle{
		nil, {whole(0, 1)}, {half(0, 1)}, {whole(num(minusZero), 1)}, {whole(0, 2)}, {whole(1, 1)}, {whole(-1, 1)}, {whole(-1, 0)}, {whole(-1, num(minusZero))}, {whole(1, 0)}, {half(1, 0)},
		{whole(nan, 1)}, {whole(0, nan)}, {whole(nan, nan)}, {half(nan, nan)}, {whole(num(plusInf), 1)}, {whole(num(minusInf), 1)}, {whole(0, num(plusInf))}, {whole(num(leastSub), 1)},
		{whole(0, 1), half(0, 1)}, {half(0, 1), whole(0, 1)}, {whole(0, 1), whole(0, 1)}, {whole(0, 1), half(0, 2)}, {whole(0, 1), half(0, 1), half(0, 1)},
		make([]impl.Cycle, impl.MaxCycles), make([]impl.Cycle, impl.MaxCycles+1), gustyCycles(), wildCycles(), fineCycles(),
	}
	for i, a := range lists {
		for k, b := range lists {
			if got := impl.SameCycles(a, slices.Clone(b)); got != (i == k) {
				t.Errorf("%v and %v: got %v", a, b, got)
			}
		}
	}
	want(t, "all not-a-numbers are one", impl.SameCycles([]impl.Cycle{whole(nan, other)}, []impl.Cycle{whole(other, nan)}), true)
	want(t, "nil and an empty list", impl.SameCycles(nil, []impl.Cycle{}) && impl.SameCycles([]impl.Cycle{}, nil), true)
	// The last of many differs, in one thing.
	for _, count := range []int{1, 2, impl.MaxCycles, 300} {
		for _, c := range []impl.Cycle{half(0, 0), whole(num(minusZero), 0), whole(0, num(minusZero)), whole(0, num(leastSub))} {
			a := slices.Repeat([]impl.Cycle{whole(0, 0)}, count)
			b := slices.Clone(a)
			b[count-1] = c
			want(t, "the last one differs", impl.SameCycles(a, b) || impl.SameCycles(b, a), false)
			want(t, "one is shorter", impl.SameCycles(a, a[1:]) || impl.SameCycles(a[:count-1], a), false)
			want(t, "the same", impl.SameCycles(a, slices.Clone(a)) && impl.SameCycles(b, slices.Clone(b)), true)
		}
	}
}
