package tests

import (
	"math"
	"slices"
	"testing"

	"loop.example/g01256/impl"
)

func toldCycles(list []impl.Cycle, ok bool) string {
	if !ok && len(list) > 0 {
		return "failed with cycles"
	}
	if !ok {
		return ""
	}
	out := "told"
	for _, c := range list {
		out += toldIntegers(true, flag(c.Whole)) + hexOf(c.Low, c.High)
	}
	return out
}

func toldWorst(worst []float32, whose []int64, ok bool) string {
	if !ok && len(whose) > 0 {
		return "failed with lists"
	}
	return toldList(worst, ok) + toldIntegers(ok, whose...)
}

func toldSpectrum(list []complex64, ok bool) string {
	if !ok && len(list) > 0 {
		return "failed with a spectrum"
	}
	return toldBins(partsOf(list...), ok)
}

func toldPairs(pairs [][]int64, ok bool) string {
	if !ok && len(pairs) > 0 {
		return "failed with pairs"
	}
	if !ok {
		return ""
	}
	out := "told"
	for _, pair := range pairs {
		out += " " + toldIntegers(true, pair...)
	}
	return out
}

// allOfLoads has what all functions with loads tell of some.
func allOfLoads(list, other []float32, x, y float32) []string {
	return []string{
		toldList(impl.EndsOf(list)), toldCycles(impl.CyclesOf(list)), toldNumber(impl.MeanLoad(list)), toldNumber(impl.SpreadOfLoads(list)), toldNumber(impl.ExceedOf(list, x)),
		toldList(impl.MixLoads(list, other, x, y)), toldList(impl.MixLoads(other, list, 1, x)), toldWorst(impl.WorstLoads([][]float32{list, other})), toldWorst(impl.WorstLoads([][]float32{other, other, list})),
		toldSpectrum(impl.SpectrumOfLoads(list)), toldList(impl.PowersOfLoads(list)),
	}
}

// allOfCycles has what all functions with cycles tell of some.
func allOfCycles(list, other []impl.Cycle, x float32, n int64) []string {
	return []string{
		told(true, flag(impl.AreCycles(list))), told(true, flag(impl.SameCycles(list, other))), toldBins(impl.CountCycles(list, x, n)), toldBins(impl.CountCycles(list, x, 3)), toldBins(impl.CountCycles(list, 1, n)),
		toldKnot(impl.LongestCycle(list)), toldNumber(impl.DamageOf(list, x, n)), toldNumber(impl.DamageOf(list, x, 2)), toldNumber(impl.DamageOf(list, 1, n)), toldNumber(impl.EqualRange(list, x, n)), toldNumber(impl.EqualRange(list, x, 1)), toldNumber(impl.EqualRange(list, 1, n)),
	}
}

// allOfTower has what all functions with towers tell of one.
func allOfTower(t impl.Tower, x, y, z, w float32, multiples []int64, list []float32) []string {
	return []string{
		told(true, flag(impl.ValidTower(t))), toldNumber(impl.TowerRate(t)), toldFlow(impl.AnswerOf(t, x)), toldNumber(impl.GainOf(t, x)), toldTwo(impl.StepTower(t, x, y, z, w)), toldTwo(impl.StepTower(t, w, x, y, 0.125)),
		toldList(impl.RunTower(t, x, y, list, w)), toldList(impl.RunTower(t, 1, 2, list, x)), toldNumber(impl.EnergyOfTower(t, x, y)), toldPairs(impl.CrossingsOf(t, multiples, list)), toldPairs(impl.CrossingsOf(t, multiples, []float32{x, y, z, w})),
	}
}

// anyCycles returns count cycles, some of which are whole.
func anyCycles(n *noise, count int) []impl.Cycle {
	list := make([]impl.Cycle, count)
	for i := range list {
		low := 10 * n.between()
		list[i] = impl.Cycle{Low: low, High: low + 5 + 5*n.between(), Whole: n.next()%2 == 0}
	}
	return list
}

func anyTower(n *noise) impl.Tower {
	return towerOf(2.1+2*n.between(), 1+n.between(), 11+10*n.between())
}

// loadsOf returns lists of loads of all kinds, and all wrong ones.
func loadsOf(seed noise) [][]float32 {
	list := append(wrongLoads(), gusty(), wild(), fine(), oddNumbers(), []float32{num(greatest), -num(greatest), num(greatest)}, []float32{num(greatest), num(greatest)})
	for _, count := range []int{1, 2, 3, 17, 63, impl.MaxLoads, impl.MaxLoads + 1} {
		list = append(list, anyLoads(&seed, count, 3), anyTurns(&seed, count), zigzag(count, -1, 2))
	}
	return list
}

// cyclesFrom returns lists of cycles of all kinds, and all wrong ones.
func cyclesFrom(seed noise) [][]impl.Cycle {
	list := append(wrongCycles(), nil, oddCycles(), gustyCycles(), wildCycles(), fineCycles())
	for _, count := range []int{1, 2, 7, 63, impl.MaxCycles, impl.MaxCycles + 1} {
		list = append(list, anyCycles(&seed, count), make([]impl.Cycle, count))
	}
	return list
}

// someMultiples returns lists of multiples, right ones and wrong ones.
func someMultiples() [][]int64 {
	return [][]int64{nil, {1}, {12, 1, 7, 7}, {0}, {1, 13}, {-1}, {math.MaxInt64, math.MinInt64}, slices.Repeat([]int64{3}, impl.MaxBins), slices.Repeat([]int64{3}, impl.MaxBins+1)}
}

func TestPromise1LoadsAndCyclesReturnTheSameAgain(t *testing.T) {
	lists, cycles := loadsOf(76), cyclesFrom(77)
	odd := append(oddNumbers(), 0.25, 3, -7)
	counts := []int64{0, 1, 2, 3, 4, 12, 13, impl.MaxBins, impl.MaxBins + 1, -1, math.MaxInt64, math.MinInt64}
	within(t, func() {
		wantToldAgain(t, len(lists), len(odd), func(i, j int) []string {
			list, x := lists[i], odd[j]
			return slices.Concat(allOfLoads(list, lists[(i+3*j)%len(lists)], x, odd[(i+j)%len(odd)]), allOfLoads(list, list, x, 1))
		})
		wantToldAgain(t, len(cycles), len(odd), func(i, j int) []string {
			return allOfCycles(cycles[i], cycles[(i+j)%len(cycles)], odd[j], counts[(i+5*j)%len(counts)])
		})
	})
}

func TestPromise1TowersReturnTheSameAgain(t *testing.T) {
	n := noise(78)
	towers, lists := append(wrongTowers(), oddTowers()...), loadsOf(79)
	for range 20 {
		towers = append(towers, anyTower(&n))
	}
	odd := append(oddNumbers(), 0.25, 3, -7)
	within(t, func() {
		wantToldAgain(t, len(towers), len(odd), func(i, j int) []string {
			x, y, z, w := odd[j], odd[(i+3*j)%len(odd)], odd[(2*i+j)%len(odd)], odd[(i+j)%len(odd)]
			multiples := someMultiples()
			out := allOfTower(towers[i], x, y, z, w, multiples[(i+j)%len(multiples)], lists[(i+7*j)%len(lists)])
			// Ordinary numbers but for one.
			out = append(out, allOfTower(towers[i], x, 2, 3, 0.25, []int64{1, 2}, gusty())...)
			return append(out, allOfTower(mast(), 1, 2, x, 0.25, []int64{1, 2}, []float32{1, x})...)
		})
	})
}

// cyclesLeftAlone reports whether a list has still its cycles, and what is in the room behind it.
func cyclesLeftAlone(got, wanted []impl.Cycle) bool {
	sign := whole(77, 78)
	return sameCycles(got[:len(got)+4], append(slices.Clone(wanted), sign, sign, sign, sign))
}

func TestPromise1LoadsAndCyclesAreLeftAlone(t *testing.T) {
	n := noise(80)
	for _, list := range loadsOf(81) {
		room, other := spare(list, 77), spare(anyTurns(&n, len(list)), 77)
		kept := slices.Clone(other)
		got := append(allOfLoads(room, other, 0.5, 2), allOfTower(mast(), 1, 2, 3, 0.25, []int64{1, 2}, room)...)
		wanted := append(allOfLoads(list, kept, 0.5, 2), allOfTower(mast(), 1, 2, 3, 0.25, []int64{1, 2}, list)...)
		want(t, "the same with room behind the lists", slices.Equal(got, wanted), true)
		want(t, "loads are left alone", listLeftAlone(room, list) && listLeftAlone(other, kept), true)
	}
	for _, list := range cyclesFrom(82) {
		room, other := spare(list, whole(77, 78)), spare(gustyCycles(), whole(77, 78))
		want(t, "the same with room behind the cycles", slices.Equal(allOfCycles(room, other, 0.5, 3), allOfCycles(list, gustyCycles(), 0.5, 3)), true)
		want(t, "cycles are left alone", cyclesLeftAlone(room, list) && cyclesLeftAlone(other, gustyCycles()), true)
	}
	for _, list := range someMultiples() {
		room := spare(list, 3)
		want(t, "the same with room behind the multiples", toldPairs(impl.CrossingsOf(mast(), room, gusty())), toldPairs(impl.CrossingsOf(mast(), list, gusty())))
		want(t, "multiples are left alone", slices.Equal(room[:len(room)+4], append(slices.Clone(list), 3, 3, 3, 3)), true)
	}
	// Lists that are in a list, and the room behind that.
	first, second, behind := spare(gusty(), 77), spare(wild()[:17], 77), ones(17)
	lists := [][]float32{first, second, behind}[:2]
	got := toldWorst(impl.WorstLoads(lists))
	want(t, "the same with room behind the lists", got, toldWorst(impl.WorstLoads([][]float32{gusty(), wild()[:17]})))
	want(t, "lists are left alone", listLeftAlone(first, gusty()) && listLeftAlone(second, wild()[:17]) && sameNumbers(behind, ones(17)), true)
	want(t, "the list of lists is left alone", &lists[0][0] == &first[0] && &lists[1][0] == &second[0] && &lists[:3][2][0] == &behind[0], true)
}

func TestPromise1LoadsShareNoMemory(t *testing.T) {
	one := []float32{7}
	for what, do := range map[string]func(a, b []float32) ([]float32, bool){
		"ends":     func(a, b []float32) ([]float32, bool) { return impl.EndsOf(a) },
		"mix":      func(a, b []float32) ([]float32, bool) { return impl.MixLoads(a, b, 1, 0) },
		"mix back": func(a, b []float32) ([]float32, bool) { return impl.MixLoads(a, b, 0, 1) },
		"powers":   func(a, b []float32) ([]float32, bool) { return impl.PowersOfLoads(a) },
		"run":      func(a, b []float32) ([]float32, bool) { return impl.RunTower(mast(), 1, 2, a, 0.25) },
		"worst": func(a, b []float32) ([]float32, bool) {
			list, _, ok := impl.WorstLoads([][]float32{a})
			return list, ok
		},
	} {
		for _, loads := range [][]float32{gusty(), wild(), fine(), one, zigzag(impl.MaxLoads, 0, 1)} {
			a, b := spare(loads, 77), spare(loads, 77)
			got, ok := do(a, b)
			want(t, what, ok && len(got) > 0, true)
			wanted := slices.Clone(got)
			overwrite(got)
			want(t, what+": arguments after new results", listLeftAlone(a, loads) && listLeftAlone(b, loads), true)
			again, ok := do(a, b)
			wantLists(t, what+" again", again, nil, ok, wanted, nil)
		}
	}
	for range 2 {
		cycles, ok := impl.CyclesOf(gusty())
		wantCycles(t, "cycles", cycles, ok, gustyCycles()...)
		all := cycles[:cap(cycles)]
		for i := range all {
			all[i] = whole(55, 56)
		}
		counts, ok := impl.CountCycles(gustyCycles(), 0.7, 4)
		wantCounts(t, "counts", counts, ok, 0, 2, 0, 1)
		overwriteIntegers(counts)
		_, whose, ok := impl.WorstLoads([][]float32{{1, 3}, {2, 1}})
		wantCounts(t, "whose", whose, ok, 1, 0)
		overwriteIntegers(whose)
		spectrum, ok := impl.SpectrumOfLoads([]float32{1, 3})
		want(t, "spectrum", ok && sameComplexes(spectrum, []complex64{4, -2}), true)
		clear(spectrum[:cap(spectrum)])
	}
}

func TestPromise1PairsShareNoMemory(t *testing.T) {
	do := func() [][]int64 {
		pairs, ok := impl.CrossingsOf(bare(), []int64{1, 2, 12}, zigzag(5, 0, 1))
		want(t, "success", ok && len(pairs) == 12, true)
		return pairs
	}
	pairs := do()
	for i, pair := range pairs {
		kept := slices.Clone(pairs)
		for k := range kept {
			kept[k] = slices.Clone(kept[k])
		}
		overwriteIntegers(pair)
		for k := range pairs {
			want(t, "other pairs after a new one", k == i || slices.Equal(pairs[k], kept[k]), true)
		}
	}
	wantPairs(t, "pairs again", do(), true, []int64{0, 0}, []int64{0, 1}, []int64{0, 2}, []int64{0, 3}, []int64{1, 0}, []int64{1, 1}, []int64{1, 2}, []int64{1, 3}, []int64{2, 0}, []int64{2, 1}, []int64{2, 2}, []int64{2, 3})
}

// endsInCycles returns both ends of all whole cycles, and those through which one goes along the others, from first on.
func endsInCycles(t *testing.T, list []impl.Cycle, first float32) []float32 {
	t.Helper()
	at := first
	ends := []float32{at}
	for _, c := range list {
		switch {
		case c.Whole:
			ends = append(ends, c.Low, c.High)
			continue
		case c.Low == at:
			at = c.High
		case c.High == at:
			at = c.Low
		default:
			t.Fatalf("%v: there is no way from %v along %v", list, at, c)
		}
		ends = append(ends, at)
	}
	return ends
}

// inOrder returns numbers from the least one on.
func inOrder(list []float32) []float32 {
	list = slices.Clone(list)
	slices.Sort(list)
	return list
}

// wayAlong returns how far it is along some loads.
func wayAlong(loads []float32) float64 {
	way := 0.0
	for i := 1; i < len(loads); i++ {
		way += math.Abs(float64(loads[i]) - float64(loads[i-1]))
	}
	return way
}

func TestPromise8CyclesAreCountedWithAllOfTheirEnds(t *testing.T) {
	n := noise(83)
	wholes := 0
	for range 4000 {
		loads := anyLoads(&n, 1+int(n.next()%impl.MaxLoads), 1+int(n.next()%40))
		ends, one := impl.EndsOf(loads)
		cycles, two := impl.CyclesOf(loads)
		want(t, "success", one && two, true)
		if got := endsInCycles(t, cycles, ends[0]); !slices.Equal(inOrder(got), inOrder(ends)) {
			t.Fatalf("%v: got %v with the ends %v, want those of %v", loads, cycles, got, ends)
		}
		// Each way between two ends is half of a cycle.
		counts, ok := impl.CountCycles(cycles, 1000, 1)
		wantCounts(t, "halves of cycles", counts, ok, int64(len(ends)-1))
		counts, ok = impl.CountCycles(cycles, 4, impl.MaxBins)
		all := int64(0)
		for _, count := range counts {
			all += count
		}
		want(t, "halves in all bins", ok && all == int64(len(ends)-1), true)
		for _, c := range cycles {
			wholes += int(flag(c.Whole))
		}
		// Cycles of the ends are those of the loads, and the longest one goes from the least to the greatest load.
		again, ok := impl.CyclesOf(ends)
		wantCycles(t, "cycles of the ends", again, ok, cycles...)
		if len(cycles) > 0 {
			_, reach, ok := impl.LongestCycle(cycles)
			wantNumber(t, "the longest one", reach, ok, bitsOf(slices.Max(loads)-slices.Min(loads)))
		}
	}
	want(t, "many cycles are whole", wholes > 20000, true)
}

func TestPromise8CyclesHaveAllTheWay(t *testing.T) {
	n := noise(84)
	for range 2000 {
		loads := anyTurns(&n, 1+int(n.next()%impl.MaxLoads))
		cycles, ok := impl.CyclesOf(loads)
		want(t, "success", ok, true)
		way := wayAlong(loads)
		damage, ok := impl.DamageOf(cycles, 1, 1)
		if !ok || math.Abs(2*float64(damage)-way) > 1e-5*way {
			t.Fatalf("%v: the damage is %v %v, but the way is %v", loads, damage, ok, way)
		}
		// Behind any other loads, a way back and there again is a whole cycle.
		if top := slices.Max(loads); len(loads) < impl.MaxLoads-4 {
			more := append(slices.Clone(loads), top+2, top+1, top+2)
			longer, ok := impl.CyclesOf(more)
			want(t, "success", ok, true)
			want(t, "a way back and there again", slices.Contains(longer, whole(top+1, top+2)), true)
		}
	}
}

// damagesBy returns the damage of cycles, in 64-bit numbers.
func damagesBy(list []impl.Cycle, strength float64, power int64) float64 {
	sum := 0.0
	for _, c := range list {
		w := 0.5
		if c.Whole {
			w = 1
		}
		sum += w * math.Pow((float64(c.High)-float64(c.Low))/strength, float64(power))
	}
	return sum
}

func nearly(x, y, share float64) bool { return math.Abs(x-y) <= share*math.Abs(y) }

func TestPromise8DamagesAddUp(t *testing.T) {
	n := noise(85)
	for range 1500 {
		first, second := anyCycles(&n, int(n.next()%33)), anyCycles(&n, int(n.next()%33))
		both := slices.Concat(first, second)
		strength := 5 + 4*n.between()
		for power := int64(1); power <= 12; power++ {
			x, one := impl.DamageOf(first, strength, power)
			y, two := impl.DamageOf(second, strength, power)
			z, three := impl.DamageOf(both, strength, power)
			want(t, "success", one && two && three, true)
			if !nearly(float64(z), float64(x)+float64(y), 1e-5) || !nearly(float64(z), damagesBy(both, float64(strength), power), 1e-5) {
				t.Fatalf("%v and %v: the damages %v and %v add up to %v", first, second, x, y, z)
			}
		}
		// Two halves do what a whole cycle does.
		halves := slices.Clone(first)
		for i := range halves {
			halves[i].Whole = false
		}
		wholes := slices.Clone(first)
		for i := range wholes {
			wholes[i].Whole = true
		}
		x, one := impl.DamageOf(slices.Concat(halves, halves), strength, 3)
		y, two := impl.DamageOf(wholes, strength, 3)
		want(t, "two halves", one && two && nearly(float64(x), float64(y), 1e-5), true)
	}
}

func TestPromise8EqualCyclesDoTheSame(t *testing.T) {
	n := noise(86)
	for range 1500 {
		list := anyCycles(&n, 1+int(n.next()%impl.MaxCycles))
		count := 1 + int(n.next()%impl.MaxCycles)
		for halves := range int64(4) {
			reach, ok := impl.EqualRange(list, float32(count), halves)
			want(t, "success", ok && reach >= 0, true)
			equal := slices.Repeat([]impl.Cycle{whole(0, reach)}, count)
			x, one := impl.DamageOf(equal, 5, 1<<halves)
			y, two := impl.DamageOf(list, 5, 1<<halves)
			if !one || !two || !nearly(float64(x), float64(y), 1e-4) {
				t.Fatalf("%v: %v cycles with the range %v do %v, and these %v", list, count, reach, x, y)
			}
		}
	}
}
