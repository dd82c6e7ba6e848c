package tests

import (
	"math"
	"slices"
	"strconv"
	"testing"

	"loop.example/g01256/impl"
)

func toldRose(r impl.Rose, ok bool) string {
	if !ok && len(r.Shares)+len(r.Speeds) > 0 {
		return "failed with a rose"
	}
	if !ok {
		return ""
	}
	return "told " + hexOf(r.Shares...) + ": " + hexOf(r.Speeds...)
}

func toldIntegers(ok bool, list ...int64) string {
	zero := len(list)
	out := "told"
	for _, n := range list {
		if n == 0 {
			zero--
		}
		out += " " + strconv.FormatInt(n, 10)
	}
	switch {
	case ok:
		return out
	case zero == 0:
		return ""
	}
	return "failed with a value"
}

func toldFlow(x complex64, ok bool) string { return told(ok, 0, real(x), imag(x)) }

func toldSector(k int64, ok bool) string { return toldIntegers(ok, k) }

func toldCalms(calms, longest int64, ok bool) string { return toldIntegers(ok, calms, longest) }

func toldBins(bins []int64, ok bool) string {
	if !ok && len(bins) > 0 {
		return "failed with bins"
	}
	return toldIntegers(ok, bins...)
}

func toldGusts(winds []float32, seed int64, ok bool) string {
	if !ok && len(winds) > 0 {
		return "failed with winds"
	}
	return told(ok, seed, winds...)
}

// allOfWinds has what all functions with a list of winds tell of one.
func allOfWinds(list []float32, x float32, count int64) []string {
	turns := make([]float32, len(list))
	for i := range turns {
		turns[i] = float32(i) / 7
	}
	return []string{
		toldNumber(impl.MeanOfWinds(list)), toldNumber(impl.SpreadOfWinds(list)), toldList(impl.SmoothWinds(list, count)), toldNumber(impl.GustFactor(list, count)),
		toldBins(impl.BinsOfWinds(list, x, count)), toldCalms(impl.CalmsOf(list, x)), toldRose(impl.RoseOf(turns, list, count)),
	}
}

// allOfRose has what all functions with roses that can fail tell of two.
func allOfRose(r, q impl.Rose, x float32, by int64) []string {
	return []string{
		toldRose(impl.NormRose(r)), toldRose(impl.TurnRose(r, by)), toldRose(impl.MixRoses(r, q, x)), toldRose(impl.MixRoses(q, r, x)),
		toldNumber(impl.MeanOfRose(r)), toldFlow(impl.FlowOfRose(r)), toldNumber(impl.PowerOfRose(r, x)), toldKnot(impl.StrongestSector(r)),
	}
}

// allOfAir has what all functions with air tell of one.
func allOfAir(a, b impl.Air, x, y, z float32, count, seed int64) []string {
	return []string{
		told(true, flag(impl.ValidAir(a))), told(true, flag(impl.SameAir(a, b))), toldNumber(impl.SpeedAtHeight(a, x)), toldNumber(impl.DensityAtHeight(a, x)), toldNumber(impl.AirPower(x, y)),
		toldNumber(impl.DiscPower(a, x, y, count)), toldNumber(impl.DiscPower(a, y, z, count)), toldGusts(impl.GustsOf(a, x, count, y, z, seed)),
	}
}

// restOfRoses has what the other functions of the chapter tell.
func restOfRoses(r, q impl.Rose, x float32, count int64) []string {
	return []string{
		told(true, flag(impl.ValidRose(r))), told(true, flag(impl.SameRose(r, q))), toldRose(impl.EvenRose(count, x)), toldSector(impl.SectorOf(x, count)), toldRose(impl.RoseOf(q.Speeds, r.Speeds, count)),
	}
}

// anyRose returns a valid rose with some sectors, if they are not too many.
func anyRose(n *noise, count int) impl.Rose {
	var r impl.Rose
	for range count {
		r.Shares = append(r.Shares, 1+n.between())
		r.Speeds = append(r.Speeds, 10+9*n.between())
	}
	return r
}

func anyAir(n *noise) impl.Air {
	return impl.Air{Density: 1.3 + n.between(), Height: 20 + 19*n.between(), Speed: 10 + 9.9*n.between(), Shear: 0.5 + 0.5*n.between()}
}

// anyWinds returns a list of winds without a rule.
func anyWinds(n *noise, count int) []float32 {
	list := make([]float32, count)
	for i := range list {
		list[i] = 10 + 10*n.between()
	}
	return list
}

// someRoses returns valid roses of any size, and all wrong ones.
func someRoses(seed noise) []impl.Rose {
	list := slices.Concat(wrongRoses(), oddRoses(), []impl.Rose{fiveSectors(), otherSectors(), fullRose()})
	for size := range impl.MaxSectors {
		list = append(list, anyRose(&seed, size+1))
	}
	return list
}

// oddNumbers are those at which most functions of the chapter turn.
func oddNumbers() []float32 {
	return nums(plusZero, minusZero, leastSub, leastNorm, 0x3f000000, 0x3f7fffff, 0x3f800000, 0x3f800001, 0xbf800000, 0x40f66666, 0x4134cccd, 0x447a0000, 0xc47a0001, greatest, plusInf, minusInf, aNaN)
}

// countAt returns a number of parts, winds or sectors, by an index.
func countAt(i int) int64 {
	list := []int64{-1, 0, 1, 2, 5, impl.MaxSectors, impl.MaxSectors + 1, 64, 65, impl.MaxWinds, impl.MaxWinds + 1, math.MaxInt64, math.MinInt64}
	return list[i%len(list)]
}

func TestPromise1AirReturnsTheSameAgain(t *testing.T) {
	list := slices.Concat(wrongAir(), oddAir(), []impl.Air{breeze(), gale()})
	odd := oddNumbers()
	within(t, func() {
		wantToldAgain(t, len(list), len(odd), func(i, j int) []string {
			a, b := list[i], list[(i+j)%len(list)]
			seed := []int64{-1, 0, 1, 2147483647, 2147483648, math.MaxInt64, math.MinInt64}[(i+2*j)%7]
			x, y, z := odd[j], odd[(i+3*j)%len(odd)], odd[(2*i+j)%len(odd)]
			out := allOfAir(a, b, x, y, z, countAt(i+5*j), seed)
			// Ordinary numbers but for one.
			out = append(out, allOfAir(a, b, x, 3, 0.5, 7, 77)...)
			return append(out, allOfAir(a, b, 20, x, 0.5, 7, 77)...)
		})
	})
}

// someLists returns lists of winds of any length, and all wrong ones.
func someLists(seed noise) [][]float32 {
	lists := append(wrongWinds(), nums(plusZero, minusZero, leastSub), nums(greatest, greatest), nums(greatest, plusZero), nums(leastSub), nums(minusZero))
	for _, size := range []int{1, 2, 3, 5, 16, 17, 100, impl.MaxWinds - 1, impl.MaxWinds, impl.MaxWinds + 1} {
		lists = append(lists, anyWinds(&seed, size))
	}
	return lists
}

func TestPromise1WindsReturnTheSameAgain(t *testing.T) {
	lists := someLists(33)
	odd := oddNumbers()
	within(t, func() {
		wantToldAgain(t, len(lists), len(odd), func(i, j int) []string {
			out := allOfWinds(lists[i], odd[j], countAt(i+j))
			return slices.Concat(out, allOfWinds(lists[i], 3, countAt(j)), allOfWinds(lists[i], odd[j], 4))
		})
	})
}

func TestPromise1RosesReturnTheSameAgain(t *testing.T) {
	roses := someRoses(34)
	odd := oddNumbers()
	within(t, func() {
		wantToldAgain(t, len(roses), len(odd), func(i, j int) []string {
			r, q := roses[i], roses[(i+j)%len(roses)]
			by := int64(i+7*j)%40 - 20
			if j%5 == 4 {
				by = countAt(i + j)
			}
			return append(allOfRose(r, q, odd[j], by), restOfRoses(r, q, odd[j], countAt(i+j))...)
		})
	})
}

// spareRose returns a copy of a rose, whose lists have room behind them.
func spareRose(r impl.Rose) impl.Rose {
	return roseOf(spare(r.Shares, 77), spare(r.Speeds, 77))
}

// listLeftAlone reports whether a list has still its numbers, and what is in the room behind it.
func listLeftAlone(got, wanted []float32) bool {
	return sameNumbers(got[:len(got)+4], append(slices.Clone(wanted), 77, 77, 77, 77))
}

func roseLeftAlone(got, wanted impl.Rose) bool {
	return listLeftAlone(got.Shares, wanted.Shares) && listLeftAlone(got.Speeds, wanted.Speeds)
}

func TestPromise1WindsAndRosesAreLeftAlone(t *testing.T) {
	for i, r := range someRoses(35) {
		q := fullRose()
		if i%2 == 0 {
			q = copyOfRose(r)
		}
		a, b := spareRose(r), spareRose(q)
		for by := int64(-2); by <= 2; by++ {
			wanted := append(allOfRose(r, q, 0.3, by), restOfRoses(r, q, 0.3, 4)...)
			got := append(allOfRose(a, b, 0.3, by), restOfRoses(a, b, 0.3, 4)...)
			want(t, "the same with room behind the lists", slices.Equal(got, wanted), true)
		}
		if !roseLeftAlone(a, r) || !roseLeftAlone(b, q) {
			t.Fatalf("%v has changed", r)
		}
	}
	for _, list := range someLists(36) {
		room, turns := spare(list, 77), spare(make([]float32, len(list)), 77)
		for _, count := range []int64{1, 2, 3, 16} {
			want(t, "the same with room behind the list", slices.Equal(allOfWinds(room, 3, count), allOfWinds(list, 3, count)), true)
			impl.RoseOf(turns, room, count)
		}
		if !listLeftAlone(room, list) || !listLeftAlone(turns, make([]float32, len(list))) {
			t.Fatalf("%v has changed", list)
		}
	}
}

func TestPromise1RosesShareNoMemory(t *testing.T) {
	for what, do := range map[string]func(r, q impl.Rose) (impl.Rose, bool){
		"even":                 func(r, q impl.Rose) (impl.Rose, bool) { return impl.EvenRose(4, 0.25) },
		"of turns and winds":   func(r, q impl.Rose) (impl.Rose, bool) { return impl.RoseOf(r.Shares, q.Speeds, 5) },
		"with the sum 1":       func(r, q impl.Rose) (impl.Rose, bool) { return impl.NormRose(r) },
		"turned by nothing":    func(r, q impl.Rose) (impl.Rose, bool) { return impl.TurnRose(r, 0) },
		"turned":               func(r, q impl.Rose) (impl.Rose, bool) { return impl.TurnRose(r, 2) },
		"turned all around":    func(r, q impl.Rose) (impl.Rose, bool) { return impl.TurnRose(r, 5) },
		"mixed, all of first":  func(r, q impl.Rose) (impl.Rose, bool) { return impl.MixRoses(r, q, 0) },
		"mixed, all of second": func(r, q impl.Rose) (impl.Rose, bool) { return impl.MixRoses(r, q, 1) },
	} {
		// The lists of the arguments share memory with one another.
		r := spareRose(fiveSectors())
		r.Speeds = r.Shares
		kept := roseOf(fiveSectors().Shares, fiveSectors().Shares)
		wanted, ok := do(kept, kept)
		want(t, what, ok, true)
		wanted = copyOfRose(wanted)
		got, ok := do(r, r)
		wantRose(t, what, got, ok, wanted)
		overwrite(got.Shares)
		want(t, what+": speeds after new shares", sameNumbers(got.Speeds, wanted.Speeds), true)
		overwrite(got.Speeds)
		want(t, what+": arguments after new results", roseLeftAlone(r, kept), true)
		again, ok := do(r, r)
		wantRose(t, what+" again", again, ok, wanted)
	}
}

func TestPromise1WindsShareNoMemory(t *testing.T) {
	list := spare(someWinds(), 77)
	for window := int64(1); window <= 3; window++ {
		got, _ := impl.SmoothWinds(list, window)
		kept := slices.Clone(got)
		overwrite(got)
		want(t, "winds after new means", listLeftAlone(list, someWinds()), true)
		again, ok := impl.SmoothWinds(list, window)
		want(t, "means again", ok && sameNumbers(again, kept), true)
	}
	gusts, seed, _ := impl.GustsOf(breeze(), 20, 9, 0.4, 0.6, 1)
	kept := slices.Clone(gusts)
	overwrite(gusts)
	gusts, next, ok := impl.GustsOf(breeze(), 20, 9, 0.4, 0.6, 1)
	wantGusts(t, "gusts again", gusts, next, ok, seed, kept)
	bins, _ := impl.BinsOfWinds(list, 2, 5)
	counts := slices.Clone(bins)
	for i := range bins[:cap(bins)] {
		bins[:cap(bins)][i] = 55
	}
	bins, ok = impl.BinsOfWinds(list, 2, 5)
	want(t, "bins again", ok && slices.Equal(bins, counts), true)
}

func TestPromise5WindsGrowWithHeights(t *testing.T) {
	n := noise(37)
	for range 3000 {
		a := anyAir(&n)
		heights := []float32{0, num(leastSub), a.Height, 2 * a.Height, 1e6, num(greatest)}
		for range 20 {
			heights = append(heights, 100+100*n.between(), a.Height*(1+n.between()))
		}
		slices.Sort(heights)
		before := float64(a.Speed * (1 - a.Shear))
		thinner := a.Density
		for _, height := range heights {
			speed, one := impl.SpeedAtHeight(a, height)
			density, two := impl.DensityAtHeight(a, height)
			// Each one is as great as the one before, nearly, and where real numbers would be.
			wanted := float64(a.Speed) * (1 + float64(a.Shear)*(float64(height)-float64(a.Height))/(float64(height)+float64(a.Height)))
			if !one || !two || float64(speed) < before-1e-5 || math.Abs(float64(speed)-wanted) > 1e-5 || density > thinner {
				t.Fatalf("%v at %v: got %v %v and %v %v, after %v and %v, want %v", a, height, speed, one, density, two, before, thinner, wanted)
			}
			before, thinner = float64(speed), density
		}
		want(t, "at most twice as great, without gusts", before <= 2*float64(a.Speed)+1e-5, true)
		ground, _ := impl.SpeedAtHeight(a, 0)
		at, _ := impl.SpeedAtHeight(a, a.Height)
		above, _ := impl.SpeedAtHeight(a, 4*a.Height)
		wantBits(t, "speed at the Height", at, bitsOf(a.Speed))
		if a.Shear > 0.01 {
			want(t, "speeds grow", ground < at && at < above, true)
		}
	}
}

func TestPromise5MoreWindHasMorePower(t *testing.T) {
	n := noise(38)
	for range 2000 {
		a := anyAir(&n)
		height := 60 + 20*n.between()
		low, one := impl.DiscPower(a, height, 30, 5)
		high, two := impl.DiscPower(a, height+50, 30, 5)
		least, _ := impl.SpeedAtHeight(a, height-30)
		most, _ := impl.SpeedAtHeight(a, height+30)
		from, _ := impl.AirPower(a.Density, least)
		to, _ := impl.AirPower(a.Density, most)
		if !one || !two || low > high*1.00001 || low < from*0.99999 || low > to*1.00001 {
			t.Fatalf("%v at %v: got %v and %v, from %v to %v", a, height, low, high, from, to)
		}
	}
}

func TestPromise5BinsHaveAllOfTheirWinds(t *testing.T) {
	n := noise(39)
	for k := range 4000 {
		list := anyWinds(&n, 1+k%impl.MaxWinds)
		count := 1 + int64(n.next()%impl.MaxSectors)
		// Widths that are powers of two, so that no quotient is rounded.
		width := float32(math.Exp2(float64(n.small(4))))
		got, ok := impl.BinsOfWinds(list, width, count)
		want(t, "success", ok && int64(len(got)) == count, true)
		var sum int64
		for i, bin := range got {
			var wanted int64
			for _, x := range list {
				if x >= float32(i)*width && (x < float32(i+1)*width || i == len(got)-1) {
					wanted++
				}
			}
			want(t, "winds of a bin", bin, wanted)
			sum += bin
		}
		want(t, "winds of all bins", sum, int64(len(list)))
		// Any other width keeps all winds as well.
		got, ok = impl.BinsOfWinds(list, 1+n.between()*0.999, count)
		sum = 0
		for _, bin := range got {
			sum += bin
		}
		want(t, "winds of all bins, of any width", ok && sum == int64(len(list)), true)
	}
}

func TestPromise5RosesHaveAllOfTheirWinds(t *testing.T) {
	n := noise(40)
	for k := range 4000 {
		speeds := anyWinds(&n, 1+k%impl.MaxWinds)
		turns := make([]float32, len(speeds))
		for i := range turns {
			turns[i] = n.between() * []float32{1, 1000}[k%2]
		}
		count := 1 + int64(n.next()%impl.MaxSectors)
		r, ok := impl.RoseOf(turns, speeds, count)
		want(t, "success", ok && int64(len(r.Shares)) == count && impl.ValidRose(r), true)
		var shares, products float64
		for i, share := range r.Shares {
			var own []float32
			for j, turn := range turns {
				if sector, _ := impl.SectorOf(turn, count); sector == int64(i) {
					own = append(own, speeds[j])
				}
			}
			wantBits(t, "share", share, bitsOf(float32(len(own))/float32(len(speeds))))
			mean, _ := impl.MeanOfWinds(own)
			wantBits(t, "speed", r.Speeds[i], bitsOf(mean))
			shares += float64(share)
			products += float64(share) * float64(r.Speeds[i])
		}
		mean, _ := impl.MeanOfWinds(speeds)
		ofRose, known := impl.MeanOfRose(r)
		if math.Abs(shares-1) > 1e-5 || math.Abs(products-float64(mean)) > 1e-3 || !known || math.Abs(float64(ofRose-mean)) > 1e-3 {
			t.Fatalf("%v %v: got %v, with the shares %v, the products %v and the mean %v, want %v", turns, speeds, r, shares, products, ofRose, mean)
		}
	}
}

func TestPromise5TurnedRosesTurnTheWayTheyGo(t *testing.T) {
	n := noise(41)
	for k := range 2000 {
		count := 1 + k%impl.MaxSectors
		r := anyRose(&n, count)
		flow, one := impl.FlowOfRose(r)
		mean, _ := impl.MeanOfRose(r)
		for by := int64(-impl.MaxSectors); by <= impl.MaxSectors; by++ {
			turned, two := impl.TurnRose(r, by)
			got, three := impl.FlowOfRose(turned)
			wanted := impl.MulComplex(flow, impl.PhasorOf(float64(by)/float64(count)))
			if !one || !two || !three || !nearFlow(got, wanted) {
				t.Fatalf("%v turned by %v: got %v, want %v", r, by, got, wanted)
			}
			still, _ := impl.MeanOfRose(turned)
			want(t, "the same mean, nearly", math.Abs(float64(still-mean)) < 1e-4, true)
			back, ok := impl.TurnRose(turned, -by)
			wantRose(t, "turned back", back, ok, r)
			if by%int64(count) == 0 {
				wantRose(t, "turned all around", turned, two, r)
			}
		}
	}
}

func nearFlow(a, b complex64) bool {
	return math.Abs(float64(real(a)-real(b))) < 1e-4 && math.Abs(float64(imag(a)-imag(b))) < 1e-4
}

func TestPromise5SectorsGoTheirWay(t *testing.T) {
	// A rose with one wind goes to the direction of its sector, and its wind is in this sector.
	for count := int64(1); count <= impl.MaxSectors; count++ {
		for k := range count {
			turn := float32(k) / float32(count)
			sector, one := impl.SectorOf(turn, count)
			want(t, "the sector of a direction", one && sector == k, true)
			r, two := impl.RoseOf([]float32{turn}, []float32{3}, count)
			flow, three := impl.FlowOfRose(r)
			angle := 2 * math.Pi * float64(k) / float64(count)
			wanted := complex64(complex(3*math.Cos(angle), 3*math.Sin(angle)))
			want(t, "the flow of a direction", two && three && nearFlow(flow, wanted), true)
			best, _, four := impl.StrongestSector(r)
			want(t, "the strongest sector", four && best == k, true)
		}
	}
}

func TestPromise5MixedRosesLieBetween(t *testing.T) {
	n := noise(42)
	for k := range 4000 {
		count := 1 + k%impl.MaxSectors
		a, b := anyRose(&n, count), anyRose(&n, count)
		r, ok := impl.MixRoses(a, b, 0.5+0.5*n.between())
		want(t, "success", ok, true)
		for i := range count {
			if !nearlyBetween(r.Shares[i], a.Shares[i], b.Shares[i]) || !nearlyBetween(r.Speeds[i], a.Speeds[i], b.Speeds[i]) {
				t.Fatalf("%v and %v: got %v", a, b, r)
			}
		}
		norm, ok := impl.NormRose(r)
		var sum float64
		for _, share := range norm.Shares {
			sum += float64(share)
		}
		want(t, "shares that are 1 together, nearly", ok && math.Abs(sum-1) < 1e-5, true)
	}
}
