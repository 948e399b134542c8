package tests

import (
	"math"
	"testing"

	"loop.example/g03007/impl"
)

var wantDays = map[int]int{impl.KdBag: 90, impl.KdCoat: 90, impl.KdKeys: 90, impl.KdMoney: 180, impl.KdPhone: 180, impl.KdUmbrella: 90, impl.KdFood: 1, impl.KdOther: 90}

// findOfEach has a find of each kind.
func findOfEach(at int) []impl.Find {
	var l []impl.Find
	for kind := impl.KdBag; kind <= impl.KdOther; kind++ {
		f := findOf(10*kind, 3, at)
		f.Thing.Kind = kind
		l = append(l, f)
	}
	return l
}

func TestKeepDays(t *testing.T) {
	checkValue(t, impl.DayHours, 24, "DayHours")
	for kind := -5; kind <= 300; kind++ {
		checkValue(t, impl.KeepDays(kind), wantDays[kind], "KeepDays(%d)", kind)
	}
	for _, kind := range []int{math.MinInt, math.MaxInt, 1 << 32, 1<<32 + 1} {
		checkValue(t, impl.KeepDays(kind), 0, "KeepDays(%d)", kind)
	}
}

func TestDueHour(t *testing.T) {
	for _, at := range []int{0, 1, 10, 23, 24, impl.MaxHour - 1, impl.MaxHour} {
		for _, f := range findOfEach(at) {
			checkValue(t, impl.DueHour(f), at+24*wantDays[f.Thing.Kind], "DueHour(%+v)", f)
		}
	}
	for _, f := range invalidFinds() {
		checkValue(t, impl.DueHour(f), -1, "DueHour(%+v)", f)
	}
}

func TestAFindIsDueFromItsHourOn(t *testing.T) {
	for _, at := range []int{0, 10, impl.MaxHour} {
		for _, f := range findOfEach(at) {
			due := at + 24*wantDays[f.Thing.Kind]
			for _, now := range []int{math.MinInt, -1, 0, at - 1, at, due - 24, due - 2, due - 1} {
				checkValue(t, impl.IsDue(f, now), false, "IsDue(%+v, %d)", f, now)
			}
			for _, now := range []int{due, due + 1, due + 24, 200000, math.MaxInt} {
				checkValue(t, impl.IsDue(f, now), true, "IsDue(%+v, %d)", f, now)
			}
		}
	}
	for _, f := range invalidFinds() {
		for _, now := range []int{math.MinInt, -1, 0, 5, 99999, math.MaxInt} {
			checkValue(t, impl.IsDue(f, now), false, "IsDue(%+v, %d)", f, now)
		}
	}
}

// mixedFinds has finds that are due at different hours, in no order, and some that are not valid.
func mixedFinds() []impl.Find {
	l := append(findOfEach(10), impl.Find{}, findOf(0, 3, 10), findOf(5, 3, -1))
	l = append(l, findOfEach(3)...)
	return append(l, findOf(77, 3, 10), findOf(78, 31, 0))
}

func someNows() []int {
	l := []int{math.MinInt, -2, -1, 0, 1, 99999, 200000, math.MaxInt}
	for _, f := range mixedFinds() {
		due := f.At + 24*wantDays[f.Thing.Kind]
		l = append(l, due-1, due, due+1)
	}
	return l
}

func TestDueThings(t *testing.T) {
	for _, now := range someNows() {
		var want []int
		for _, f := range mixedFinds() {
			if impl.IsFind(f) && f.At+24*wantDays[f.Thing.Kind] <= now {
				want = append(want, f.Thing.Id)
			}
		}
		arg, unchanged := guarded(mixedFinds(), findOf(66, 3, 0))
		checkList(t, impl.DueThings(arg, now), want, "DueThings(.., %d)", now)
		unchanged(t)
	}
	checkList(t, impl.DueThings(nil, math.MaxInt), nil, "DueThings of no finds")
	checkList(t, impl.DueThings(invalidFinds(), math.MaxInt), nil, "DueThings of invalid finds")
}

func TestNextDue(t *testing.T) {
	for _, now := range someNows() {
		want := -1
		for _, f := range mixedFinds() {
			due := f.At + 24*wantDays[f.Thing.Kind]
			if impl.IsFind(f) && due > now && (want == -1 || due < want) {
				want = due
			}
		}
		arg, unchanged := guarded(mixedFinds(), findOf(66, 3, 0))
		checkValue(t, impl.NextDue(arg, now), want, "NextDue(.., %d)", now)
		unchanged(t)
	}
	for _, now := range []int{math.MinInt, -9, -2, -1, 0} {
		checkValue(t, impl.NextDue(nil, now), -1, "NextDue of no finds at %d", now)
		checkValue(t, impl.NextDue(invalidFinds(), now), -1, "NextDue of invalid finds at %d", now)
		checkValue(t, impl.NextDue(findOfEach(0), now), 24, "NextDue at %d", now)
	}
}

func TestFindsThatAreDueJustNow(t *testing.T) {
	f := findOf(2, 3, 10)
	f.Thing.Kind = impl.KdFood
	l := []impl.Find{f, findOf(4, 3, 10)}
	for now, want := range map[int][]int{33: nil, 34: {2}, 35: {2}, 2169: {2}, 2170: {2, 4}} {
		checkList(t, impl.DueThings(l, now), want, "DueThings at %d", now)
	}
	for now, want := range map[int]int{33: 34, 34: 2170, 2169: 2170, 2170: -1} {
		checkValue(t, impl.NextDue(l, now), want, "NextDue at %d", now)
	}
	checkValue(t, impl.DaysLeft(f, 33), 1, "DaysLeft an hour before")
	checkValue(t, impl.DaysLeft(f, 34), 0, "DaysLeft just then")
}

func TestDaysLeft(t *testing.T) {
	for _, at := range []int{0, 10, impl.MaxHour} {
		for _, f := range findOfEach(at) {
			due := at + 24*wantDays[f.Thing.Kind]
			for _, now := range []int{0, 1, at - 25, at - 24, at - 1, at, at + 1, at + 23, at + 24, at + 25, due - 49, due - 48, due - 25, due - 24, due - 23, due - 1, due, due + 1, 199999, 200000} {
				want := 0
				if now >= 0 {
					for hours := due - now; hours > 0; hours -= 24 {
						want++
					}
				}
				checkValue(t, impl.DaysLeft(f, now), want, "DaysLeft(%+v, %d)", f, now)
			}
			for _, now := range []int{-1, -2, 200001, 200002, math.MinInt, math.MaxInt} {
				checkValue(t, impl.DaysLeft(f, now), 0, "DaysLeft(%+v, %d)", f, now)
			}
		}
	}
	for _, f := range invalidFinds() {
		for _, now := range []int{0, 5, 99999, -1} {
			checkValue(t, impl.DaysLeft(f, now), 0, "DaysLeft(%+v, %d)", f, now)
		}
	}
}
