package tests

import (
	"math"
	"testing"

	"loop.example/g03007/impl"
)

func span(from int, until int) impl.Span {
	return impl.Span{From: from, Until: until}
}

var invalidSpans = []impl.Span{
	{From: -1, Until: 4}, {From: -1, Until: -1}, {From: -1, Until: 0}, {From: -1, Until: impl.MaxHour},
	{From: 5, Until: 4}, {From: 1, Until: 0}, {From: impl.MaxHour, Until: impl.MaxHour - 1}, {From: impl.MaxHour, Until: 0}, {From: 20, Until: -3},
	{From: 0, Until: impl.MaxHour + 1}, {From: 5, Until: impl.MaxHour + 1}, {From: impl.MaxHour + 1, Until: impl.MaxHour + 1}, {From: impl.MaxHour + 1, Until: impl.MaxHour},
	{From: -5, Until: impl.MaxHour + 5}, {From: impl.MaxHour + 1, Until: -1},
	{From: math.MinInt, Until: math.MaxInt}, {From: math.MaxInt, Until: math.MinInt}, {From: math.MinInt, Until: 4}, {From: 4, Until: math.MaxInt},
	{From: math.MinInt, Until: math.MinInt}, {From: math.MaxInt, Until: math.MaxInt},
}

// someSpans returns spans over the first and the last hours.
func someSpans() []impl.Span {
	var l []impl.Span
	hours := []int{0, 1, 2, 3, 4, 50000, impl.MaxHour - 2, impl.MaxHour - 1, impl.MaxHour}
	for i, from := range hours {
		for _, until := range hours[i:] {
			l = append(l, span(from, until))
		}
	}
	return l
}

// someHours lies on both sides of the bounds of someSpans.
var someHours = []int{
	math.MinInt, -2, -1, 0, 1, 2, 3, 4, 5, 49999, 50000, 50001,
	impl.MaxHour - 3, impl.MaxHour - 2, impl.MaxHour - 1, impl.MaxHour, impl.MaxHour + 1, math.MaxInt,
}

func isWithin(hour int, s impl.Span) bool {
	return s.From <= hour && hour <= s.Until
}

func TestMaxHour(t *testing.T) {
	if impl.MaxHour != 100000 {
		t.Errorf("MaxHour = %d", impl.MaxHour)
	}
}

func TestIsSpan(t *testing.T) {
	for _, s := range append(someSpans(), span(0, 0), span(0, impl.MaxHour), span(impl.MaxHour, impl.MaxHour), span(5, 20)) {
		if !impl.IsSpan(s) {
			t.Errorf("IsSpan(%v) = false", s)
		}
	}
	for _, s := range invalidSpans {
		if impl.IsSpan(s) {
			t.Errorf("IsSpan(%v) = true", s)
		}
	}
}

func checkSpan(t *testing.T, name string, got impl.Span, ok bool, want impl.Span, wantOk bool) {
	t.Helper()
	if got != want || ok != wantOk {
		t.Errorf("%s = %v, %v, want %v, %v", name, got, ok, want, wantOk)
	}
}

func TestMeetExamples(t *testing.T) {
	for _, c := range []struct {
		a, b, want impl.Span
		ok         bool
	}{
		{span(5, 20), span(12, 40), span(12, 20), true},
		{span(5, 20), span(5, 20), span(5, 20), true},
		{span(5, 20), span(7, 9), span(7, 9), true},
		{span(5, 20), span(0, impl.MaxHour), span(5, 20), true},
		// They meet in one hour.
		{span(5, 20), span(20, 40), span(20, 20), true},
		{span(5, 5), span(5, 5), span(5, 5), true},
		{span(0, 0), span(0, impl.MaxHour), span(0, 0), true},
		{span(0, 7), span(0, 0), span(0, 0), true},
		{span(0, impl.MaxHour), span(impl.MaxHour, impl.MaxHour), span(impl.MaxHour, impl.MaxHour), true},
		{span(5, 20), span(12, 12), span(12, 12), true},
		// They do not meet.
		{span(5, 20), span(21, 40), impl.Span{}, false},
		{span(5, 5), span(6, 6), impl.Span{}, false},
		{span(0, 0), span(1, impl.MaxHour), impl.Span{}, false},
		{span(0, 0), span(impl.MaxHour, impl.MaxHour), impl.Span{}, false},
	} {
		got, ok := impl.Meet(c.a, c.b)
		checkSpan(t, "Meet", got, ok, c.want, c.ok)
		got, ok = impl.Meet(c.b, c.a)
		checkSpan(t, "Meet the other way round", got, ok, c.want, c.ok)
	}
}

func TestMeetIsWithinBoth(t *testing.T) {
	for _, a := range someSpans() {
		for _, b := range someSpans() {
			m, ok := impl.Meet(a, b)
			if ok && !impl.IsSpan(m) || !ok && m != (impl.Span{}) {
				t.Fatalf("Meet(%v, %v) = %v, %v", a, b, m, ok)
			}
			isAny := false
			for _, hour := range someHours {
				both := isWithin(hour, a) && isWithin(hour, b)
				isAny = isAny || both
				if (ok && isWithin(hour, m)) != both {
					t.Errorf("Meet(%v, %v) = %v, %v, wrong at hour %d", a, b, m, ok, hour)
				}
			}
			if ok != isAny {
				t.Errorf("Meet(%v, %v) = %v, %v", a, b, m, ok)
			}
		}
	}
}

func TestHullExamples(t *testing.T) {
	for _, c := range []struct{ a, b, want impl.Span }{
		{span(5, 20), span(30, 40), span(5, 40)},
		{span(5, 20), span(12, 40), span(5, 40)},
		{span(5, 20), span(7, 9), span(5, 20)},
		{span(5, 5), span(5, 5), span(5, 5)},
		{span(5, 20), span(20, 21), span(5, 21)},
		{span(0, 0), span(impl.MaxHour, impl.MaxHour), span(0, impl.MaxHour)},
	} {
		got, ok := impl.Hull(c.a, c.b)
		checkSpan(t, "Hull", got, ok, c.want, true)
		got, ok = impl.Hull(c.b, c.a)
		checkSpan(t, "Hull the other way round", got, ok, c.want, true)
	}
}

func TestHullIsTheLeastThatHasBoth(t *testing.T) {
	for _, a := range someSpans() {
		for _, b := range someSpans() {
			h, ok := impl.Hull(a, b)
			if !ok || !isWithin(a.From, h) || !isWithin(a.Until, h) || !isWithin(b.From, h) || !isWithin(b.Until, h) {
				t.Fatalf("Hull(%v, %v) = %v, %v", a, b, h, ok)
			}
			if h.From != a.From && h.From != b.From || h.Until != a.Until && h.Until != b.Until {
				t.Errorf("Hull(%v, %v) = %v is not the least one", a, b, h)
			}
		}
	}
}

func TestMeetAndHullReject(t *testing.T) {
	for _, bad := range invalidSpans {
		for _, s := range append(someSpans(), invalidSpans...) {
			got, ok := impl.Meet(bad, s)
			checkSpan(t, "Meet", got, ok, impl.Span{}, false)
			got, ok = impl.Meet(s, bad)
			checkSpan(t, "Meet", got, ok, impl.Span{}, false)
			got, ok = impl.Hull(bad, s)
			checkSpan(t, "Hull", got, ok, impl.Span{}, false)
			got, ok = impl.Hull(s, bad)
			checkSpan(t, "Hull", got, ok, impl.Span{}, false)
		}
	}
}

func TestWiden(t *testing.T) {
	for _, c := range []struct {
		s    impl.Span
		n    int
		want impl.Span
	}{
		{span(5, 20), 0, span(5, 20)},
		{span(5, 20), 1, span(4, 21)},
		{span(5, 20), 4, span(1, 24)},
		{span(5, 20), 5, span(0, 25)},
		{span(5, 20), 6, span(0, 26)},
		{span(5, 20), 7, span(0, 27)},
		{span(0, 0), 3, span(0, 3)},
		{span(5, 99999), 1, span(4, impl.MaxHour)},
		{span(5, 99999), 2, span(3, impl.MaxHour)},
		{span(50, 99990), 10, span(40, impl.MaxHour)},
		{span(50, 99990), 9, span(41, 99999)},
		{span(5, 99999), impl.MaxHour, span(0, impl.MaxHour)},
		{span(0, impl.MaxHour), 0, span(0, impl.MaxHour)},
		{span(0, 0), impl.MaxHour, span(0, impl.MaxHour)},
		{span(0, 0), impl.MaxHour - 1, span(0, impl.MaxHour-1)},
		{span(impl.MaxHour, impl.MaxHour), impl.MaxHour, span(0, impl.MaxHour)},
		{span(impl.MaxHour, impl.MaxHour), impl.MaxHour - 1, span(1, impl.MaxHour)},
	} {
		got, ok := impl.Widen(c.s, c.n)
		checkSpan(t, "Widen", got, ok, c.want, true)
	}
}

func TestWidenRejects(t *testing.T) {
	for _, n := range []int{-1, -2, -impl.MaxHour, impl.MaxHour + 1, impl.MaxHour + 2, math.MaxInt, math.MinInt} {
		for _, s := range append(someSpans(), invalidSpans...) {
			got, ok := impl.Widen(s, n)
			checkSpan(t, "Widen by a number out of range", got, ok, s, false)
		}
	}
	for _, s := range append([]impl.Span{{From: 3, Until: 2}}, invalidSpans...) {
		for _, n := range []int{0, 1, 5, impl.MaxHour} {
			got, ok := impl.Widen(s, n)
			checkSpan(t, "Widen of an invalid span", got, ok, s, false)
		}
	}
}

func TestHolds(t *testing.T) {
	for _, s := range someSpans() {
		for _, hour := range someHours {
			if got := impl.Holds(s, hour); got != isWithin(hour, s) {
				t.Errorf("Holds(%v, %d) = %v", s, hour, got)
			}
		}
	}
	for _, s := range invalidSpans {
		for _, hour := range append(someHours, s.From, s.Until) {
			if impl.Holds(s, hour) {
				t.Errorf("Holds(%v, %d) = true", s, hour)
			}
		}
	}
}

func TestHours(t *testing.T) {
	for s, want := range map[impl.Span]int{
		span(5, 20):                      16,
		span(5, 5):                       1,
		span(5, 6):                       2,
		span(0, 0):                       1,
		span(impl.MaxHour, impl.MaxHour): 1,
		span(0, impl.MaxHour):            impl.MaxHour + 1,
		span(1, impl.MaxHour):            impl.MaxHour,
		span(0, impl.MaxHour/2):          impl.MaxHour/2 + 1,
	} {
		if got := impl.Hours(s); got != want {
			t.Errorf("Hours(%v) = %d, want %d", s, got, want)
		}
	}
	for _, s := range invalidSpans {
		if got := impl.Hours(s); got != 0 {
			t.Errorf("Hours(%v) = %d", s, got)
		}
	}
}
