package tests

import (
	"slices"
	"testing"

	"loop.example/g01256/impl"
)

func wantCounts(t *testing.T, what string, got []int64, ok bool, wanted ...int64) {
	t.Helper()
	if !ok || !slices.Equal(got, wanted) {
		t.Errorf("%s: got %v %v, want %v", what, got, ok, wanted)
	}
}

func wantNoCounts(t *testing.T, what string, got []int64, ok bool) {
	t.Helper()
	if ok || len(got) > 0 {
		t.Errorf("%s: got %v %v, want none", what, got, ok)
	}
}

// someStates returns a list of states without a rule, in which neighbours are often equal.
func someStates(n *noise, count int) []int64 {
	list := make([]int64, count)
	for i := range list {
		list[i] = int64(n.next() % 5)
		if i > 0 && n.next()%2 == 0 {
			list[i] = list[i-1]
		}
	}
	return list
}

// wrongStateLists returns lists that are not ones of states.
func wrongStateLists() [][]int64 {
	lists := [][]int64{make([]int64, impl.MaxRun+1), make([]int64, 1000), slices.Repeat([]int64{2, 3}, impl.MaxRun)}
	for _, state := range wrongStates() {
		lists = append(lists, []int64{state}, []int64{state, 1, 2}, []int64{1, state, 2}, []int64{0, 1, 2, 3, 4, state}, slices.Repeat([]int64{state}, impl.MaxRun))
	}
	return lists
}

func TestCountStates(t *testing.T) {
	for _, c := range []struct {
		list, want []int64
	}{
		{nil, []int64{0, 0, 0, 0, 0}}, {[]int64{}, []int64{0, 0, 0, 0, 0}}, {[]int64{0}, []int64{1, 0, 0, 0, 0}}, {[]int64{4}, []int64{0, 0, 0, 0, 1}},
		{[]int64{0, 1, 2, 3, 4}, []int64{1, 1, 1, 1, 1}}, {[]int64{4, 1, 4, 4, 2, 1, 4}, []int64{0, 2, 1, 0, 4}}, {[]int64{3, 3, 0, 3}, []int64{1, 0, 0, 3, 0}},
		{make([]int64, impl.MaxRun), []int64{impl.MaxRun, 0, 0, 0, 0}}, {slices.Repeat([]int64{2, 4}, impl.MaxRun/2), []int64{0, 0, impl.MaxRun / 2, 0, impl.MaxRun / 2}},
	} {
		got, ok := impl.CountStates(c.list)
		wantCounts(t, "counts", got, ok, c.want...)
	}
	n := noise(44)
	for range 500 {
		list := someStates(&n, int(n.next()%(impl.MaxRun+1)))
		var wanted [5]int64
		for _, state := range list {
			wanted[state]++
		}
		got, ok := impl.CountStates(list)
		wantCounts(t, "counts", got, ok, wanted[:]...)
	}
}

func TestChangesIn(t *testing.T) {
	for _, c := range []struct {
		list []int64
		want int64
	}{
		{nil, 0}, {[]int64{}, 0}, {[]int64{3}, 0}, {[]int64{3, 3}, 0}, {[]int64{3, 2}, 1}, {[]int64{0, 1, 1, 4}, 2}, {[]int64{1, 0, 1, 0}, 3}, {[]int64{0, 0, 0, 1}, 1}, {[]int64{2, 0, 0, 0}, 1}, {[]int64{2, 4, 2, 2, 2, 4}, 3},
		{make([]int64, impl.MaxRun), 0}, {slices.Repeat([]int64{2, 4}, impl.MaxRun/2), impl.MaxRun - 1},
	} {
		got, ok := impl.ChangesIn(c.list)
		wantInteger(t, "changes", got, ok, c.want)
	}
}

func TestLongestIn(t *testing.T) {
	for _, c := range []struct {
		list []int64
		want [5]int64
	}{
		{nil, [5]int64{}}, {[]int64{}, [5]int64{}}, {[]int64{0}, [5]int64{1}}, {[]int64{4}, [5]int64{0, 0, 0, 0, 1}}, {[]int64{1, 1, 0, 1}, [5]int64{1, 2}}, {[]int64{1, 0, 1, 1}, [5]int64{1, 2}},
		{[]int64{2, 2, 2, 3, 3, 2, 2, 4}, [5]int64{0, 0, 3, 2, 1}}, {[]int64{2, 2, 3, 3, 3, 2, 2, 2, 2}, [5]int64{0, 0, 4, 3, 0}}, {[]int64{0, 1, 0, 1, 0}, [5]int64{1, 1}},
		{make([]int64, impl.MaxRun), [5]int64{impl.MaxRun}}, {slices.Repeat([]int64{2, 4}, impl.MaxRun/2), [5]int64{0, 0, 1, 0, 1}},
	} {
		for state, wanted := range c.want {
			got, ok := impl.LongestIn(c.list, int64(state))
			wantInteger(t, "longest", got, ok, wanted)
		}
		for _, state := range wrongStates() {
			got, ok := impl.LongestIn(c.list, state)
			wantNoSum(t, "longest of a wrong state", got, ok)
		}
	}
}

func TestListsOfStatesByHand(t *testing.T) {
	n := noise(45)
	for range 500 {
		list := someStates(&n, int(n.next()%(impl.MaxRun+1)))
		var longest [5]int64
		var changes int64
		// Each part of equal neighbours is counted from where it begins.
		for i := 0; i < len(list); {
			j := i
			for j < len(list) && list[j] == list[i] {
				j++
			}
			longest[list[i]] = max(longest[list[i]], int64(j-i))
			changes++
			i = j
		}
		got, ok := impl.ChangesIn(list)
		wantInteger(t, "changes", got, ok, max(changes-1, 0))
		for state, wanted := range longest {
			got, ok := impl.LongestIn(list, int64(state))
			wantInteger(t, "longest", got, ok, wanted)
		}
	}
}

func TestWrongListsOfStates(t *testing.T) {
	for _, list := range wrongStateLists() {
		counts, ok := impl.CountStates(list)
		wantNoCounts(t, "counts of a wrong list", counts, ok)
		changes, ok := impl.ChangesIn(list)
		wantNoSum(t, "changes in a wrong list", changes, ok)
		for state := int64(-1); state <= 5; state++ {
			longest, ok := impl.LongestIn(list, state)
			wantNoSum(t, "longest in a wrong list", longest, ok)
		}
	}
}

func TestShareOfRated(t *testing.T) {
	for _, c := range []struct {
		plant        impl.Plant
		energy, time float32
		want         uint32
	}{
		{simple(), 2, 1, bitsOf(0.5)}, {simple(), 2, 0.5, bitsOf(1)}, {simple(), -2, 4, bitsOf(-0.125)}, {simple(), 0, 3, plusZero}, {simple(), num(minusZero), 3, minusZero},
		{simple(), num(leastSub), num(leastSub), bitsOf(0.25)}, {simple(), 0, num(leastSub), plusZero}, {simple(), num(greatest), 0.25, greatest}, {simple(), -num(greatest), 0x1p125, bitsOf(-num(greatest) / 0x1p127)},
		// Of a time so long that its product with Rated is beyond all numbers, nothing is left.
		{simple(), num(greatest), num(greatest), plusZero}, {simple(), -1, 0x1p126, minusZero}, {pump(), 1, num(greatest), plusZero},
		{grinder(), 12.3, 0.7, 0x3ed9d5ad}, {grinder(), -1e+06, 333.3, 0xc2914b01}, {grinder(), 0.001, 0.001, 0x3cc65a80}, {grinder(), 7.7, 1e+09, 0x2f4cfe62},
		{pump(), 12.3, 0.7, 0x401e63ee}, {pump(), -1e+06, 333.3, 0xc3d349eb}, {pump(), 0.001, 0.001, 0x3e1039b1}, {pump(), 7.7, 1e+09, 0x30950db3},
	} {
		for state := range int64(5) {
			got, ok := impl.ShareOfRated(driveOf(c.plant, state, 1.5, 0.5, c.energy), c.time)
			wantNumber(t, "share", got, ok, c.want)
		}
	}
}

func TestShareOfRatedThatIsNot(t *testing.T) {
	for _, d := range oddDrives() {
		for _, time := range notPositive() {
			got, ok := impl.ShareOfRated(d, time)
			wantNoSum(t, "share of a wrong time", got, ok)
		}
	}
	for _, c := range []struct{ rated, energy, time float32 }{
		{1, num(greatest), 0.5}, {1, -num(greatest), 0.5}, {4, num(greatest), below(0.25)}, {4, 2, num(leastSub)}, {0.25, 0, num(leastSub)}, {0.25, 1, num(leastSub)}, {num(leastSub), 0, 0.5}, {num(leastSub), -1, 0.25},
	} {
		got, ok := impl.ShareOfRated(driveOf(withPlace(simple(), 2, c.rated), impl.DriveRunning, 1, 0, c.energy), c.time)
		wantNoSum(t, "share that is not finite", got, ok)
	}
}
