package tests

import (
	"math"
	"testing"

	"loop.example/g03007/impl"
)

// weekWith has the days of the week on which a house is open, one bit for each.
func weekWith(days int) []bool {
	open := make([]bool, 7)
	for i := range open {
		open[i] = days>>i&1 == 1
	}
	return open
}

var invalidCalendars = [][]bool{nil, {}, {true}, {true, true, true, true, true, true}, {true, true, true, true, true, true, true, true}, make([]bool, 6), make([]bool, 7), make([]bool, 8), make([]bool, 14)}

// wantOpen looks day by day.
func wantOpen(open []bool, day int) int {
	for !open[day%7] {
		day++
	}
	return day
}

var someDays = []int{0, 1, 2, 3, 4, 5, 6, 7, 8, 12, 13, 14, 90, 4346, 99999, 100000}

var badDays = []int{-1, -7, -8, math.MinInt, 100001, 100002, math.MaxInt}

func TestIsCalendar(t *testing.T) {
	for days := 1; days < 128; days++ {
		arg, unchanged := guarded(weekWith(days), true)
		checkValue(t, impl.IsCalendar(arg), true, "IsCalendar(%v)", arg)
		unchanged(t)
	}
	for _, open := range invalidCalendars {
		arg, unchanged := guarded(open, true)
		checkValue(t, impl.IsCalendar(arg), false, "IsCalendar(%v)", open)
		unchanged(t)
	}
}

func TestIsOpen(t *testing.T) {
	for days := 1; days < 128; days++ {
		open := weekWith(days)
		for _, day := range someDays {
			checkValue(t, impl.IsOpen(open, day), open[day%7], "IsOpen(%v, %d)", open, day)
		}
		for _, day := range badDays {
			checkValue(t, impl.IsOpen(open, day), false, "IsOpen(%v, %d)", open, day)
		}
	}
	for _, open := range invalidCalendars {
		for _, day := range someDays {
			checkValue(t, impl.IsOpen(open, day), false, "IsOpen(%v, %d)", open, day)
		}
	}
}

func TestNextOpen(t *testing.T) {
	for days := 1; days < 128; days++ {
		open := weekWith(days)
		for _, day := range someDays {
			arg, unchanged := guarded(open, true)
			checkValue(t, impl.NextOpen(arg, day), wantOpen(open, day), "NextOpen(%v, %d)", open, day)
			unchanged(t)
		}
		for _, day := range badDays {
			checkValue(t, impl.NextOpen(open, day), -1, "NextOpen(%v, %d)", open, day)
		}
	}
	for _, open := range invalidCalendars {
		for _, day := range someDays {
			checkValue(t, impl.NextOpen(open, day), -1, "NextOpen(%v, %d)", open, day)
		}
	}
	// The day 100000 is the fifth of its week; the house is open again behind MaxHour.
	checkValue(t, impl.NextOpen(weekWith(1), 100000), 100002, "NextOpen behind MaxHour")
}

func TestAddOpenDays(t *testing.T) {
	for days := 1; days < 128; days++ {
		open := weekWith(days)
		for _, day := range someDays {
			want := wantOpen(open, day)
			behind := day
			for n := range 1001 {
				if n > 0 {
					behind = wantOpen(open, behind+1)
					want = behind
				}
				if n < 16 || n > 998 {
					checkValue(t, impl.AddOpenDays(open, day, n), want, "AddOpenDays(%v, %d, %d)", open, day, n)
				}
			}
			for _, n := range []int{-1, -2, 1001, 1002, math.MinInt, math.MaxInt} {
				checkValue(t, impl.AddOpenDays(open, day, n), -1, "AddOpenDays(%v, %d, %d)", open, day, n)
			}
		}
		for _, day := range badDays {
			for _, n := range []int{0, 1, 1000} {
				checkValue(t, impl.AddOpenDays(open, day, n), -1, "AddOpenDays(%v, %d, %d)", open, day, n)
			}
		}
	}
	for _, open := range invalidCalendars {
		for _, n := range []int{0, 1, 1000} {
			checkValue(t, impl.AddOpenDays(open, 5, n), -1, "AddOpenDays(%v, 5, %d)", open, n)
		}
	}
}

func TestWeeksWithOneOpenDay(t *testing.T) {
	for only := range 7 {
		open := weekWith(1 << only)
		for day := range 21 {
			next := day + (only-day%7+7)%7
			checkValue(t, impl.NextOpen(open, day), next, "NextOpen(%v, %d)", open, day)
			for n := 1; n <= 5; n++ {
				want := next + 7*(n-1)
				if next == day {
					want = day + 7*n
				}
				checkValue(t, impl.AddOpenDays(open, day, n), want, "AddOpenDays(%v, %d, %d)", open, day, n)
			}
			checkValue(t, impl.OpenDaysBetween(open, day, day+6), 1, "OpenDaysBetween(%v, %d, %d)", open, day, day+6)
		}
	}
}

func TestNoTimeEndsOnAClosedDay(t *testing.T) {
	for days := 1; days < 128; days++ {
		open := weekWith(days)
		for _, at := range []int{0, 1, 10, 23, 24, 25, 47, 48, 100, 167, 168, impl.MaxHour - 1, impl.MaxHour} {
			for _, f := range findOfEach(at) {
				due := (at + 24*wantDays[f.Thing.Kind]) / 24
				arg, unchanged := guarded(open, true)
				last := impl.LastDay(arg, f)
				checkValue(t, last, wantOpen(open, due), "LastDay(%v, %+v)", open, f)
				checkValue(t, impl.IsOpen(open, last), true, "IsOpen of LastDay(%v, %+v)", open, f)
				if 24*last+23 < impl.DueHour(f) {
					t.Errorf("LastDay(%v, %+v) = %d, before it is due", open, f, last)
				}
				unchanged(t)
			}
		}
		for _, day := range someDays {
			for _, n := range []int{0, 1, 5, 1000} {
				if end := impl.AddOpenDays(open, day, n); !open[end%7] {
					t.Errorf("AddOpenDays(%v, %d, %d) = %d, on which it is closed", open, day, n, end)
				}
			}
		}
	}
	for _, open := range invalidCalendars {
		checkValue(t, impl.LastDay(open, findOf(2, 5, 40)), -1, "LastDay(%v, ..)", open)
	}
	for _, f := range invalidFinds() {
		checkValue(t, impl.LastDay(weekWith(127), f), -1, "LastDay(.., %+v)", f)
	}
}

func TestOpenDaysBetween(t *testing.T) {
	for days := 1; days < 128; days++ {
		open := weekWith(days)
		for from := range 16 {
			want := 0
			for until := from; until <= 40; until++ {
				if open[until%7] {
					want++
				}
				checkValue(t, impl.OpenDaysBetween(open, from, until), want, "OpenDaysBetween(%v, %d, %d)", open, from, until)
			}
		}
	}
	all := weekWith(127)
	for _, c := range [][3]int{
		{0, 0, 1}, {0, 9999, 10000}, {0, 10000, 10001}, {10000, 10000, 1}, {9999, 10000, 2}, {1, 10000, 10000}, {0, 10001, 0}, {10001, 10001, 0}, {0, math.MaxInt, 0},
		{-1, 6, 0}, {-1, -1, 0}, {math.MinInt, 5, 0}, {5, 4, 0}, {1, 0, 0}, {10000, 9999, 0}, {5, -1, 0}, {0, -1, 0}, {5, math.MinInt, 0}, {math.MaxInt, 5, 0}, {math.MaxInt, math.MaxInt, 0},
	} {
		checkValue(t, impl.OpenDaysBetween(all, c[0], c[1]), c[2], "OpenDaysBetween(.., %d, %d)", c[0], c[1])
	}
	for _, open := range invalidCalendars {
		checkValue(t, impl.OpenDaysBetween(open, 0, 20), 0, "OpenDaysBetween(%v, 0, 20)", open)
	}
}
