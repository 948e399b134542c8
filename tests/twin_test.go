package tests

import (
	"slices"
	"testing"

	"loop.example/g03007/impl"
)

// twinCandidates has finds that differ from one another in one thing or in more.
func twinCandidates() []impl.Find {
	base := findOf(2, 5, 60)
	l := []impl.Find{base}
	for _, at := range []int{0, 35, 36, 37, 59, 61, 83, 84, 85, 108, impl.MaxHour} {
		l = append(l, findOf(4, 5, at))
	}
	for _, change := range []func(f *impl.Find){
		func(f *impl.Find) {}, func(f *impl.Find) { f.Thing.Kind = impl.KdCoat }, func(f *impl.Find) { f.Thing.Colour = 2 },
		func(f *impl.Find) { f.Thing.Size = 5 }, func(f *impl.Find) { f.Place = 6 }, func(f *impl.Find) { f.Thing.Worth = 0 }, func(f *impl.Find) { f.Finder = 7 },
	} {
		other, same := findOf(6, 5, 60), findOf(2, 5, 60)
		change(&other)
		change(&same)
		l = append(l, other, same)
	}
	return append(l, impl.Find{}, findOf(0, 5, 60), findOf(4, 31, 60), findOf(4, 5, -1))
}

func wantTwins(a impl.Find, b impl.Find) bool {
	days := max(a.At, b.At)-min(a.At, b.At) <= 24
	return impl.IsFind(a) && impl.IsFind(b) && a.Thing.Id != b.Thing.Id && days &&
		a.Thing.Kind == b.Thing.Kind && a.Thing.Colour == b.Thing.Colour && a.Thing.Size == b.Thing.Size && a.Place == b.Place
}

func TestTwinsAreSoBothWays(t *testing.T) {
	count := 0
	for _, a := range twinCandidates() {
		for _, b := range twinCandidates() {
			want := wantTwins(a, b)
			if want {
				count++
			}
			checkValue(t, impl.AreTwins(a, b), want, "AreTwins(%+v, %+v)", a, b)
			checkValue(t, impl.AreTwins(b, a), want, "AreTwins(%+v, %+v)", b, a)
		}
	}
	if count == 0 {
		t.Error("there are no twins")
	}
}

func TestFindsADayApart(t *testing.T) {
	for _, at := range []int{24, 60, 5000, impl.MaxHour - 24} {
		for days, want := range map[int]bool{-25: false, -24: true, -23: true, 0: true, 23: true, 24: true, 25: false} {
			a, b := findOf(2, 5, at), findOf(4, 5, at+days)
			isFind := impl.IsFind(b)
			checkValue(t, impl.AreTwins(a, b), want && isFind, "AreTwins at %d and %d", at, at+days)
			checkValue(t, impl.AreTwins(b, a), want && isFind, "AreTwins at %d and %d", at+days, at)
		}
	}
	checkValue(t, impl.AreTwins(leastFind, greatestFind), false, "AreTwins of the least and the greatest find")
	for _, f := range invalidFinds() {
		g := f
		g.Thing.Id++
		checkValue(t, impl.AreTwins(f, g), false, "AreTwins(%+v, %+v)", f, g)
		checkValue(t, impl.AreTwins(g, f), false, "AreTwins(%+v, %+v)", g, f)
	}
}

// twinLists has all ways in which four finds can be at hours, some of which are a day apart.
func twinLists() [][]impl.Find {
	l := [][]impl.Find{nil, {}, {findOf(2, 5, 60)}, findsFrom(1, 20), findsFrom(980, 20)}
	hours := []int{0, 24, 25, 49}
	for n := range 256 {
		var finds []impl.Find
		for i := range 4 {
			finds = append(finds, findOf(2*i+2, n%3/2+5, hours[n>>(2*i)&3]))
		}
		finds[n%4].Place = 5
		l = append(l, finds)
	}
	many := findsFrom(1, 20)
	for i := range many {
		many[i].Place, many[i].At = 5, 24*i
	}
	return append(l, many)
}

func invalidFindLists() [][]impl.Find {
	return [][]impl.Find{{findOf(4, 5, 60), findOf(2, 5, 60)}, {findOf(2, 5, 60), findOf(2, 5, 60)}, {findOf(2, 5, 60), findOf(4, 5, 60), {}}, {{}, findOf(4, 5, 60), findOf(6, 5, 60)}, slices.Repeat([]impl.Find{findOf(2, 5, 60)}, 21), findsFrom(1, 21)}
}

func TestTwinsOfAndDropTwins(t *testing.T) {
	for _, l := range twinLists() {
		var ids []int
		var rest []impl.Find
		for i, f := range l {
			hasTwin := false
			for _, g := range l[:i] {
				hasTwin = hasTwin || wantTwins(f, g)
			}
			if hasTwin {
				ids = append(ids, f.Thing.Id)
			} else {
				rest = append(rest, f)
			}
		}
		arg, unchanged := guarded(l, findOf(999, 5, 60))
		checkList(t, impl.TwinsOf(arg), ids, "TwinsOf(%+v)", l)
		got := impl.DropTwins(arg)
		checkList(t, got, rest, "DropTwins(%+v)", l)
		overwrite(got, impl.Find{})
		unchanged(t)
	}
	// A twin of a twin goes, too.
	l := []impl.Find{findOf(2, 5, 60), findOf(4, 5, 80), findOf(6, 5, 100), findOf(8, 6, 60)}
	checkList(t, impl.TwinsOf(l), []int{4, 6}, "TwinsOf")
	checkList(t, impl.DropTwins(l), []impl.Find{l[0], l[3]}, "DropTwins")
}

func TestTwinsOfRejects(t *testing.T) {
	for _, l := range invalidFindLists() {
		arg, unchanged := guarded(l, findOf(999, 5, 60))
		checkList(t, impl.TwinsOf(arg), nil, "TwinsOf(%+v)", l)
		got := impl.DropTwins(arg)
		checkList(t, got, l, "DropTwins(%+v)", l)
		overwrite(got, impl.Find{})
		unchanged(t)
	}
}

func wantSameOwner(a impl.Report, b impl.Report) bool {
	_, ok := wantSharpen(a, b)
	return ok && a.Span.From <= b.Span.Until && b.Span.From <= a.Span.Until
}

func TestSameOwner(t *testing.T) {
	for _, a := range rivals() {
		for _, b := range rivals() {
			argA, unchangedA := guardedReport(a)
			argB, unchangedB := guardedReport(b)
			checkValue(t, impl.SameOwner(argA, argB), wantSameOwner(a, b), "SameOwner(%+v, %+v)", a, b)
			unchangedA(t)
			unchangedB(t)
		}
	}
	// One hour is in both spans, or none.
	for from, want := range map[int]bool{30: true, 31: true, 32: false} {
		a, b := bagReport(7), bagReport(9)
		b.Span = span(from, 40)
		checkValue(t, impl.SameOwner(a, b), want, "SameOwner from %d on", from)
		checkValue(t, impl.SameOwner(b, a), want, "SameOwner from %d on", from)
	}
	for _, bad := range invalidReports() {
		checkValue(t, impl.SameOwner(bad, bad), false, "SameOwner(%+v, itself)", bad)
		checkValue(t, impl.SameOwner(bagReport(7), bad), false, "SameOwner(.., %+v)", bad)
		checkValue(t, impl.SameOwner(bad, bagReport(7)), false, "SameOwner(%+v, ..)", bad)
	}
}

// wantGroups puts each report into the first group whose first report fits.
func wantGroups(l []impl.Report) []int {
	var groups []int
	var firsts []impl.Report
	for _, r := range l {
		at := slices.IndexFunc(firsts, func(first impl.Report) bool { return wantSameOwner(first, r) })
		if at < 0 {
			at = len(firsts)
			firsts = append(firsts, r)
		}
		groups = append(groups, firsts[at].Id)
	}
	return groups
}

func TestGroupReports(t *testing.T) {
	all := rivals()
	for start := range 37 {
		for _, step := range []int{1, 5, 7, 11} {
			var l []impl.Report
			var checks []func(t *testing.T)
			for i := start; i < len(all) && len(l) < 20; i += step {
				r, unchanged := guardedReport(all[i])
				r.Id = 3*len(l) + 2
				l, checks = append(l, r), append(checks, unchanged)
			}
			checkList(t, impl.GroupReports(l), wantGroups(l), "GroupReports(%+v)", l)
			for _, check := range checks {
				check(t)
			}
		}
	}
}

func TestReportsBetweenTwoGroups(t *testing.T) {
	at := func(id int, from int, until int) impl.Report {
		r := vagueReport(id)
		r.Span = span(from, until)
		return r
	}
	// The last one meets both groups; the third one is not the first of its group, so that the fourth one, which meets only it, is alone.
	checkList(t, impl.GroupReports([]impl.Report{at(2, 0, 10), at(4, 30, 40), at(6, 5, 20), at(8, 15, 25), at(10, 8, 50)}), []int{2, 4, 2, 8, 2}, "GroupReports")
	checkList(t, impl.GroupReports([]impl.Report{at(2, 0, 10), at(4, 30, 40), at(6, 35, 36), at(8, 35, 60)}), []int{2, 4, 4, 4}, "GroupReports")
	checkList(t, impl.GroupReports([]impl.Report{vagueReport(999)}), []int{999}, "GroupReports of one")
	for _, l := range [][]impl.Report{nil, {}, {bagReport(7), vagueReport(3)}, {bagReport(7), bagReport(7)}, {vagueReport(3), {}}, {{}, vagueReport(3)}, reportsFrom(1, 21)} {
		checkList(t, impl.GroupReports(l), nil, "GroupReports(%+v)", l)
	}
	checkValue(t, len(impl.GroupReports(reportsFrom(1, 20))), 20, "the number of groups of 20 reports")
}
