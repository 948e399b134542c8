package tests

import (
	"fmt"
	"math"
	"reflect"
	"slices"
	"testing"

	"loop.example/g03007/impl"
)

// bagReport allows two colours, six sizes and two places.
func bagReport(id int) impl.Report {
	return impl.Report{Id: id, Kind: impl.KdBag, Colours: []int{2, 3}, SizeLow: 4, SizeHigh: 9, Places: []int{1, 5}, Span: span(20, 31)}
}

// vagueReport allows everything but another kind.
func vagueReport(id int) impl.Report {
	return impl.Report{Id: id, Kind: impl.KdBag, SizeLow: 1, SizeHigh: impl.MaxSize}
}

func reportsFrom(id int, count int) []impl.Report {
	var l []impl.Report
	for i := range count {
		r := bagReport(id + i)
		if i%2 == 1 {
			r = vagueReport(id + i)
		}
		l = append(l, r)
	}
	return l
}

var reportFields = []field[impl.Report]{
	{1, 999, func(x *impl.Report, n int) { x.Id = n }},
	{1, 8, func(x *impl.Report, n int) { x.Kind = n }},
	{1, 9, func(x *impl.Report, n int) { x.SizeLow = n }},
	{4, 50, func(x *impl.Report, n int) { x.SizeHigh = n }},
	{0, 7, func(x *impl.Report, n int) { x.Colours = []int{n} }},
	{1, 30, func(x *impl.Report, n int) { x.Places = []int{n} }},
	{0, 31, func(x *impl.Report, n int) { x.Span.From = n }},
	{20, 100000, func(x *impl.Report, n int) { x.Span.Until = n }},
}

var (
	everyColour = []int{0, 1, 2, 3, 4, 5, 6, 7}
	tenPlaces   = []int{1, 3, 4, 7, 11, 12, 19, 20, 29, 30}
	badColours  = [][]int{{-1}, {8}, {-1, 2}, {2, 8}, {0, 1, 2, 3, 4, 5, 6, 7, 8}, {3, 2}, {2, 2}, {0, 0}, {1, 3, 2}, {2, 1, 3}, {1, 2, 2}, {math.MinInt}, {math.MaxInt}}
	badPlaces   = [][]int{{0}, {31}, {0, 1}, {30, 31}, {5, 4}, {5, 5}, {1, 3, 2}, {1, 2, 2}, {-1}, {1, 2, 3, 4, 5, 6, 7, 8, 9, 10, 11}, {math.MinInt}, {math.MaxInt}}
)

func invalidReports() []impl.Report {
	l := append([]impl.Report{{}}, beyondLimits(bagReport(7), reportFields)...)
	for _, colours := range badColours {
		r := bagReport(7)
		r.Colours = colours
		l = append(l, r)
	}
	for _, places := range badPlaces {
		r := bagReport(7)
		r.Places = places
		l = append(l, r)
	}
	for _, s := range invalidSpans {
		r := vagueReport(7)
		r.Span = s
		l = append(l, r)
	}
	return l
}

// guardedReport guards the lists of a report.
func guardedReport(r impl.Report) (impl.Report, func(t *testing.T)) {
	colours, sameColours := guarded(r.Colours, 6)
	places, samePlaces := guarded(r.Places, 29)
	r.Colours, r.Places = colours, places
	return r, func(t *testing.T) {
		t.Helper()
		sameColours(t)
		samePlaces(t)
	}
}

func overwriteReport(r impl.Report) {
	overwrite(r.Colours, -5)
	overwrite(r.Places, -6)
}

// isSameReport compares reports independently of EqualReports.
func isSameReport(a impl.Report, b impl.Report) bool {
	isSameList := slices.Equal(a.Colours, b.Colours) && slices.Equal(a.Places, b.Places)
	a.Colours, a.Places, b.Colours, b.Places = nil, nil, nil, nil
	return isSameList && reflect.DeepEqual(a, b)
}

func checkReport(t *testing.T, got impl.Report, want impl.Report, format string, args ...any) {
	t.Helper()
	if !isSameReport(got, want) {
		t.Errorf(format+" = %+v, want %+v", append(args, got, want)...)
	}
}

func TestIsReport(t *testing.T) {
	for _, r := range append(atLimits(bagReport(7), reportFields), bagReport(7), vagueReport(3)) {
		arg, unchanged := guardedReport(r)
		checkValue(t, impl.IsReport(arg), true, "IsReport(%+v)", r)
		unchanged(t)
	}
	for _, r := range invalidReports() {
		checkValue(t, impl.IsReport(r), false, "IsReport(%+v)", r)
	}
	r := bagReport(7)
	r.Colours, r.Places, r.SizeLow, r.SizeHigh, r.Span = everyColour, tenPlaces, 50, 50, span(impl.MaxHour, impl.MaxHour)
	checkValue(t, impl.IsReport(r), true, "IsReport(%+v)", r)
	r.Colours, r.Places, r.SizeLow, r.SizeHigh, r.Span = []int{}, []int{}, 1, 1, span(0, 0)
	checkValue(t, impl.IsReport(r), true, "IsReport(%+v)", r)
}

func TestAreReports(t *testing.T) {
	for _, l := range [][]impl.Report{nil, {}, reportsFrom(1, 1), reportsFrom(999, 1), reportsFrom(1, 19), reportsFrom(1, 20), reportsFrom(980, 20), {bagReport(1), bagReport(5), vagueReport(999)}} {
		checkValue(t, impl.AreReports(l), true, "AreReports(%+v)", l)
	}
	a, b, c := bagReport(1), vagueReport(2), bagReport(3)
	for _, l := range [][]impl.Report{reportsFrom(1, 21), reportsFrom(1, 22), reportsFrom(0, 2), reportsFrom(999, 2), {b, a}, {a, a}, {a, vagueReport(1)}, {a, b, b}, {a, c, b}, {c, a, b}} {
		checkValue(t, impl.AreReports(l), false, "AreReports(%+v)", l)
	}
	for _, r := range invalidReports() {
		for at := range 3 {
			l := reportsFrom(100, 3)
			if r.Id > 0 && r.Id < 1000 {
				r.Id = l[at].Id
			}
			l[at] = r
			checkValue(t, impl.AreReports(l), false, "AreReports(%+v)", l)
		}
	}
}

func TestFindReport(t *testing.T) {
	l := []impl.Report{bagReport(4), vagueReport(2), bagReport(9), bagReport(2), {}, bagReport(-3)}
	for id, want := range map[int]int{4: 0, 2: 1, 9: 2, 0: 4, -3: 5, 1: -1, 3: -1, 999: -1, math.MaxInt: -1, math.MinInt: -1} {
		checkValue(t, impl.FindReport(l, id), want, "FindReport(%d)", id)
	}
	checkValue(t, impl.FindReport(nil, 0), -1, "FindReport in no reports")
}

// checkPutReport also checks that the result is new memory, also within the reports.
func checkPutReport(t *testing.T, l []impl.Report, r impl.Report, want []impl.Report, wantOk bool) {
	t.Helper()
	whole := make([]impl.Report, len(l), len(l)+4)
	var checks []func(t *testing.T)
	for i := range l {
		arg, unchanged := guardedReport(l[i])
		whole[i] = arg
		checks = append(checks, unchanged)
	}
	arg, unchanged := guardedReport(r)
	checks = append(checks, unchanged)
	wantText, before := fmt.Sprint(want), fmt.Sprint(whole[:cap(whole)])

	got, ok := impl.PutReport(whole, arg)
	if fmt.Sprint(got) != wantText || ok != wantOk {
		t.Errorf("PutReport(%+v, %+v) = %+v, %v, want %+v, %v", l, r, got, ok, want, wantOk)
	}
	for i := range got {
		overwriteReport(got[i])
	}
	overwrite(got, impl.Report{Id: -7})
	for _, check := range checks {
		check(t)
	}
	checkValue(t, fmt.Sprint(whole[:cap(whole)]), before, "the argument of PutReport")
}

func TestPutReportPutsIntoPlace(t *testing.T) {
	for _, ids := range [][]int{{1, 2, 3, 4}, {4, 3, 2, 1}, {2, 4, 1, 3}, {3, 1, 4, 2}, {999, 1, 500, 2}, {2, 999, 998, 1}} {
		var l []impl.Report
		for i, id := range ids {
			r := bagReport(id)
			r.SizeHigh = 10 + i
			want := append(slices.Clone(l), r)
			slices.SortFunc(want, func(a, b impl.Report) int { return a.Id - b.Id })
			checkPutReport(t, l, r, want, true)
			l = want
		}
		for i := range l {
			r := vagueReport(l[i].Id)
			r.Colours = []int{7}
			want := slices.Clone(l)
			want[i] = r
			checkPutReport(t, l, r, want, true)
		}
	}
}

func TestPutReportLimits(t *testing.T) {
	l := reportsFrom(5, 20)
	checkPutReport(t, reportsFrom(5, 19), vagueReport(4), slices.Insert(reportsFrom(5, 19), 0, vagueReport(4)), true)
	checkPutReport(t, l, vagueReport(4), l, false)
	checkPutReport(t, l, vagueReport(25), l, false)
	want := slices.Clone(l)
	want[19] = vagueReport(24)
	want[19].SizeHigh = 3
	checkPutReport(t, l, want[19], want, true)
	checkPutReport(t, reportsFrom(5, 21), vagueReport(5), reportsFrom(5, 21), false)
	for _, r := range invalidReports() {
		checkPutReport(t, reportsFrom(5, 4), r, reportsFrom(5, 4), false)
		checkPutReport(t, nil, r, nil, false)
	}
}

func TestPutReportIntoAnInvalidList(t *testing.T) {
	for _, bad := range [][]impl.Report{{bagReport(9), bagReport(7)}, {bagReport(7), bagReport(7)}, {bagReport(7), {Id: 8}}, {{}}} {
		for _, id := range []int{1, 6, 7, 9, 10} {
			checkPutReport(t, bad, vagueReport(id), bad, false)
		}
	}
	// The one report that is against the list is replaced.
	for _, r := range invalidReports() {
		if r.Id == 7 {
			bad := []impl.Report{bagReport(6), r, bagReport(8)}
			checkPutReport(t, bad, vagueReport(7), []impl.Report{bagReport(6), vagueReport(7), bagReport(8)}, true)
			checkPutReport(t, bad, vagueReport(8), bad, false)
		}
	}
}

func TestIsVague(t *testing.T) {
	for _, r := range append(atLimits(vagueReport(7), reportFields[:2]), vagueReport(3)) {
		checkValue(t, impl.IsVague(r), true, "IsVague(%+v)", r)
		r.Colours, r.Places, r.Span = []int{}, []int{}, span(5, impl.MaxHour)
		checkValue(t, impl.IsVague(r), true, "IsVague(%+v)", r)
	}
	for _, change := range []func(r *impl.Report){
		func(r *impl.Report) { r.Colours = []int{0} },
		func(r *impl.Report) { r.Colours = everyColour },
		func(r *impl.Report) { r.Places = []int{1} },
		func(r *impl.Report) { r.SizeLow = 2 },
		func(r *impl.Report) { r.SizeHigh = 49 },
		func(r *impl.Report) { r.SizeLow = 0 },
		func(r *impl.Report) { r.SizeHigh = 51 },
		func(r *impl.Report) { r.Id = 0 },
		func(r *impl.Report) { r.Kind = 9 },
		func(r *impl.Report) { r.Span = span(4, 3) },
	} {
		r := vagueReport(3)
		change(&r)
		checkValue(t, impl.IsVague(r), false, "IsVague(%+v)", r)
	}
	checkValue(t, impl.IsVague(bagReport(7)), false, "IsVague of a report that says something")
}

func TestEqualReports(t *testing.T) {
	l := append(invalidReports(), bagReport(7), bagReport(8), vagueReport(7), vagueReport(8))
	for _, f := range reportFields {
		for _, n := range []int{f.low, f.high} {
			r := bagReport(7)
			f.set(&r, n)
			l = append(l, r)
		}
	}
	for _, colours := range [][]int{{2}, {3}, {2, 4}, {1, 3}, {2, 3, 4}} {
		r, s := bagReport(7), bagReport(7)
		r.Colours, s.Places = colours, colours
		l = append(l, r, s)
	}
	for _, a := range l {
		for _, b := range l {
			checkValue(t, impl.EqualReports(a, b), isSameReport(a, b), "EqualReports(%+v, %+v)", a, b)
		}
	}
	a, b := vagueReport(7), vagueReport(7)
	b.Colours, b.Places = []int{}, []int{}
	checkValue(t, impl.EqualReports(a, b), true, "EqualReports of nil and empty lists")
}
