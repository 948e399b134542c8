package tests

import (
	"math"
	"slices"
	"testing"

	"loop.example/g03007/impl"
)

func stop(place int, arrive int, leave int) impl.Stop {
	return impl.Stop{Place: place, Arrive: arrive, Leave: leave}
}

// someRoutes has routes of one stop, of stops that touch, and of a place that comes twice.
func someRoutes() [][]impl.Stop {
	var ten []impl.Stop
	for i := range 10 {
		ten = append(ten, stop(30-3*i, 10*i, 10*i+5))
	}
	return [][]impl.Stop{
		{stop(4, 10, 12)}, {stop(4, 10, 10)}, {stop(1, 0, 0)}, {stop(30, impl.MaxHour, impl.MaxHour)}, {stop(1, 0, impl.MaxHour)},
		{stop(4, 10, 12), stop(2, 15, 15), stop(9, 20, 25)},
		{stop(4, 0, 3), stop(2, 3, 3), stop(9, 3, 3), stop(1, 3, 4)},
		{stop(4, 10, 12), stop(2, 12, 15), stop(4, 20, 25)},
		{stop(4, 10, 12), stop(2, 15, 16), stop(4, 20, 25), stop(3, 49999, 50001)},
		ten,
	}
}

func invalidRoutes() [][]impl.Stop {
	l := [][]impl.Stop{
		nil, {}, make([]impl.Stop, 10), {{}},
		{stop(1, 3, 9), stop(2, 8, 9)}, {stop(1, 3, 9), stop(2, 10, 11), stop(3, 10, 12)}, {stop(2, 8, 9), stop(1, 3, 4)},
		{stop(1, 3, 2)}, {stop(1, 1, 0)}, {stop(1, 5, 5), stop(1, 6, 5)}, {stop(1, 5, 5), stop(1, 4, 5)},
		slices.Repeat([]impl.Stop{stop(3, 5, 5)}, 11), slices.Repeat([]impl.Stop{stop(3, 5, 5)}, 12),
	}
	fields := []field[impl.Stop]{
		{1, 30, func(x *impl.Stop, n int) { x.Place = n }},
		{0, 20, func(x *impl.Stop, n int) { x.Arrive = n }},
		{20, 100000, func(x *impl.Stop, n int) { x.Leave = n }},
	}
	for _, bad := range beyondLimits(stop(4, 20, 20), fields) {
		l = append(l, []impl.Stop{bad}, []impl.Stop{stop(1, 0, 0), bad}, []impl.Stop{bad, stop(1, impl.MaxHour, impl.MaxHour)})
	}
	return l
}

func TestIsRoute(t *testing.T) {
	for _, l := range append(someRoutes(), slices.Repeat([]impl.Stop{stop(3, 5, 5)}, 10)) {
		arg, unchanged := guarded(l, impl.Stop{})
		checkValue(t, impl.IsRoute(arg), true, "IsRoute(%v)", l)
		unchanged(t)
	}
	for _, l := range invalidRoutes() {
		checkValue(t, impl.IsRoute(l), false, "IsRoute(%v)", l)
	}
}

func wantStopAt(l []impl.Stop, hour int) int {
	for _, s := range l {
		if s.Arrive <= hour && hour <= s.Leave {
			return s.Place
		}
	}
	return 0
}

func TestStopAt(t *testing.T) {
	for _, l := range someRoutes() {
		for _, hour := range append(someHours, 9, 10, 11, 12, 13, 14, 15, 16, 17, 19, 20, 25, 26, 90, 95, 96) {
			checkValue(t, impl.StopAt(l, hour), wantStopAt(l, hour), "StopAt(%v, %d)", l, hour)
		}
	}
	for _, l := range invalidRoutes() {
		for _, hour := range append(someHours, 10, 20) {
			checkValue(t, impl.StopAt(l, hour), 0, "StopAt(%v, %d)", l, hour)
		}
	}
}

func spansOnTheWay() []impl.Span {
	l := someSpans()
	for from := range 28 {
		for until := from; until < 28; until++ {
			l = append(l, span(from, until))
		}
	}
	return l
}

// wantLeft goes through all places.
func wantLeft(l []impl.Stop, s impl.Span) []int {
	var places []int
	for place := range 31 {
		for i, x := range l {
			if x.Place == place && (i == len(l)-1 || x.Arrive <= s.Until && s.From <= x.Leave) {
				places = append(places, place)
				break
			}
		}
	}
	return places
}

func TestLeftBetween(t *testing.T) {
	for _, l := range someRoutes() {
		for _, s := range spansOnTheWay() {
			arg, unchanged := guarded(l, stop(29, 5, 6))
			checkList(t, impl.LeftBetween(arg, s), wantLeft(l, s), "LeftBetween(%v, %v)", l, s)
			unchanged(t)
		}
		for _, s := range invalidSpans {
			checkList(t, impl.LeftBetween(l, s), nil, "LeftBetween(%v, %v)", l, s)
		}
	}
	for _, l := range invalidRoutes() {
		checkList(t, impl.LeftBetween(l, span(0, impl.MaxHour)), nil, "LeftBetween(%v, ..)", l)
	}
}

func TestRoutesOfOneStop(t *testing.T) {
	l := []impl.Stop{stop(4, 10, 12)}
	for hour, place := range map[int]int{9: 0, 10: 4, 11: 4, 12: 4, 13: 0} {
		checkValue(t, impl.StopAt(l, hour), place, "StopAt(.., %d)", hour)
		// It is the last stop, whenever the thing was left.
		checkList(t, impl.LeftBetween(l, span(hour, hour)), []int{4}, "LeftBetween(.., hour %d)", hour)
	}
	checkValue(t, impl.RouteHours(l), 2, "RouteHours")
	checkValue(t, impl.RouteHours([]impl.Stop{stop(4, 10, 10)}), 0, "RouteHours of an hour")
}

func TestWhatWasLeftIsAtAStopOfThatTime(t *testing.T) {
	for _, l := range someRoutes() {
		for _, s := range spansOnTheWay() {
			left := impl.LeftBetween(l, s)
			for hour := s.From; hour <= s.Until && hour <= s.From+30; hour++ {
				for _, x := range l {
					if isWithin(hour, span(x.Arrive, x.Leave)) && !slices.Contains(left, x.Place) {
						t.Errorf("LeftBetween(%v, %v) = %v is without the place of hour %d", l, s, left, hour)
					}
				}
			}
			if !slices.Contains(left, l[len(l)-1].Place) {
				t.Errorf("LeftBetween(%v, %v) = %v is without the last stop", l, s, left)
			}
		}
	}
}

// checkAlongRoute also checks that the result is new memory.
func checkAlongRoute(t *testing.T, r impl.Report, l []impl.Stop, want impl.Report, wantOk bool) {
	t.Helper()
	arg, unchanged := guardedReport(r)
	got, ok := impl.AlongRoute(arg, l)
	checkReport(t, got, want, "AlongRoute(%+v, %v)", r, l)
	checkValue(t, ok, wantOk, "AlongRoute(%+v, %v)", r, l)
	overwriteReport(got)
	unchanged(t)
}

func TestAlongRoute(t *testing.T) {
	for _, l := range someRoutes() {
		for _, s := range spansOnTheWay() {
			for _, places := range [][]int{nil, {}, {4}, {1, 2}, {3, 4, 9}, {5, 7}, tenPlaces} {
				r := bagReport(7)
				r.Span, r.Places = s, places
				left, ok := inBoth(places, wantLeft(l, s))
				want := r
				if ok {
					want.Places = left
				}
				checkAlongRoute(t, r, l, want, ok)
			}
		}
	}
}

func TestAlongRouteRejects(t *testing.T) {
	for _, l := range invalidRoutes() {
		checkAlongRoute(t, bagReport(7), l, bagReport(7), false)
		checkAlongRoute(t, vagueReport(7), l, vagueReport(7), false)
	}
	for _, r := range invalidReports() {
		checkAlongRoute(t, r, []impl.Stop{stop(1, 0, impl.MaxHour)}, r, false)
	}
}

func TestRouteHours(t *testing.T) {
	for i, want := range []int{2, 0, 0, 0, impl.MaxHour, 15, 4, 15, 49991, 95} {
		l := someRoutes()[i]
		checkValue(t, impl.RouteHours(l), want, "RouteHours(%v)", l)
	}
	for _, l := range append(invalidRoutes(), []impl.Stop{stop(4, math.MinInt, math.MaxInt)}) {
		checkValue(t, impl.RouteHours(l), 0, "RouteHours(%v)", l)
	}
}
