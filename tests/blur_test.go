package tests

import (
	"fmt"
	"math"
	"slices"
	"testing"

	"loop.example/g03007/impl"
)

var everyDoubt = impl.Doubt{Colours: everyColour, Size: impl.MaxSize, Places: []int{1, 2, 3, 4, 5, 27, 28, 29, 30}, Hours: 1000}

var doubtFields = []field[impl.Doubt]{
	{0, 50, func(x *impl.Doubt, n int) { x.Size = n }},
	{0, 1000, func(x *impl.Doubt, n int) { x.Hours = n }},
	{0, 7, func(x *impl.Doubt, n int) { x.Colours = []int{n} }},
	{1, 30, func(x *impl.Doubt, n int) { x.Places = []int{n} }},
}

func someDoubt() impl.Doubt {
	return impl.Doubt{Colours: []int{1, 6}, Size: 5, Places: []int{2, 7}, Hours: 12}
}

func invalidDoubts() []impl.Doubt {
	l := beyondLimits(someDoubt(), doubtFields)
	for _, colours := range badColours {
		l = append(l, impl.Doubt{Colours: colours})
	}
	for _, places := range append(badPlaces, tenPlaces) {
		l = append(l, impl.Doubt{Places: places})
	}
	return l
}

func someDoubts() []impl.Doubt {
	l := []impl.Doubt{{}, {Colours: []int{}, Places: []int{}}, someDoubt(), everyDoubt}
	for _, d := range []impl.Doubt{{}, someDoubt(), everyDoubt} {
		l = append(l, atLimits(d, doubtFields)...)
	}
	return l
}

func guardedDoubt(d impl.Doubt) (impl.Doubt, func(t *testing.T)) {
	colours, sameColours := guarded(d.Colours, 6)
	places, samePlaces := guarded(d.Places, 29)
	d.Colours, d.Places = colours, places
	return d, func(t *testing.T) {
		t.Helper()
		sameColours(t)
		samePlaces(t)
	}
}

// union goes through all numbers that can be in a or b.
func union(a []int, b []int) []int {
	var l []int
	for n := range 100 {
		if slices.Contains(a, n) || slices.Contains(b, n) {
			l = append(l, n)
		}
	}
	return l
}

func TestIsDoubt(t *testing.T) {
	for _, d := range someDoubts() {
		arg, unchanged := guardedDoubt(d)
		checkValue(t, impl.IsDoubt(arg), true, "IsDoubt(%+v)", d)
		unchanged(t)
	}
	for _, d := range invalidDoubts() {
		checkValue(t, impl.IsDoubt(d), false, "IsDoubt(%+v)", d)
	}
}

func TestRemember(t *testing.T) {
	f := findOf(2, 5, 40)
	r, ok := impl.Remember(f, someDoubt(), 8)
	checkValue(t, ok, true, "Remember")
	checkReport(t, r, impl.Report{Id: 8, Kind: impl.KdBag, Colours: []int{1, 3, 6}, SizeLow: 1, SizeHigh: 9, Places: []int{2, 5, 7}, Span: span(28, 40)}, "Remember")
	r, ok = impl.Remember(f, impl.Doubt{}, 999)
	checkValue(t, ok, true, "Remember without a doubt")
	checkReport(t, r, impl.Report{Id: 999, Kind: impl.KdBag, Colours: []int{3}, SizeLow: 4, SizeHigh: 4, Places: []int{5}, Span: span(40, 40)}, "Remember without a doubt")
}

func findsToRemember() []impl.Find {
	l := []impl.Find{leastFind, greatestFind}
	for _, f := range append(atLimits(findOf(2, 5, 40), findFields), findOf(2, 5, 999), findOf(2, 5, 1000), findOf(2, 5, 1001)) {
		l = append(l, f)
		for _, x := range atLimits(f.Thing, thingFields) {
			g := f
			g.Thing = x
			l = append(l, g)
		}
	}
	return l
}

func TestWhateverIsDoubtedTheReportFits(t *testing.T) {
	for _, f := range findsToRemember() {
		for _, d := range someDoubts() {
			arg, unchanged := guardedDoubt(d)
			r, ok := impl.Remember(f, arg, 8)
			want := impl.Report{
				Id: 8, Kind: f.Thing.Kind,
				Colours: union(d.Colours, []int{f.Thing.Colour}), Places: union(d.Places, []int{f.Place}),
				SizeLow: max(1, f.Thing.Size-d.Size), SizeHigh: min(50, f.Thing.Size+d.Size),
				Span: span(max(0, f.At-d.Hours), f.At),
			}
			checkValue(t, ok, true, "Remember(%+v, %+v, 8)", f, d)
			checkReport(t, r, want, "Remember(%+v, %+v, 8)", f, d)
			checkValue(t, impl.CanBe(r, f), true, "CanBe of Remember(%+v, %+v, 8)", f, d)
			overwriteReport(r)
			unchanged(t)
		}
	}
}

func TestDoubtsAboutEverything(t *testing.T) {
	r, ok := impl.Remember(findOf(2, 10, 40), everyDoubt, 1)
	want := impl.Report{Id: 1, Kind: impl.KdBag, Colours: everyColour, SizeLow: 1, SizeHigh: 50, Places: []int{1, 2, 3, 4, 5, 10, 27, 28, 29, 30}, Span: span(0, 40)}
	checkValue(t, ok, true, "Remember with doubts about everything")
	checkReport(t, r, want, "Remember with doubts about everything")
	joined, ok := impl.JoinDoubts(everyDoubt, everyDoubt)
	if fmt.Sprint(joined) != fmt.Sprint(everyDoubt) || !ok {
		t.Errorf("JoinDoubts of doubts about everything = %+v, %v", joined, ok)
	}
	checkValue(t, impl.IsWider(vagueReport(7), r), true, "whether a vague report is wider than one of doubts")
	checkValue(t, impl.IsWider(r, vagueReport(7)), false, "whether a report of doubts is wider than a vague one")
}

func TestRememberRejects(t *testing.T) {
	f := findOf(2, 5, 40)
	for _, id := range []int{0, -1, 1000, 1001, math.MinInt, math.MaxInt} {
		r, ok := impl.Remember(f, someDoubt(), id)
		checkReport(t, r, impl.Report{}, "Remember with the Id %d", id)
		checkValue(t, ok, false, "Remember with the Id %d", id)
	}
	for _, d := range invalidDoubts() {
		r, ok := impl.Remember(f, d, 8)
		checkReport(t, r, impl.Report{}, "Remember(.., %+v, 8)", d)
		checkValue(t, ok, false, "Remember(.., %+v, 8)", d)
	}
	for _, g := range invalidFinds() {
		r, ok := impl.Remember(g, someDoubt(), 8)
		checkReport(t, r, impl.Report{}, "Remember(%+v, .., 8)", g)
		checkValue(t, ok, false, "Remember(%+v, .., 8)", g)
	}
}

func TestJoinDoubts(t *testing.T) {
	for _, a := range someDoubts() {
		for _, b := range someDoubts() {
			argA, unchangedA := guardedDoubt(a)
			argB, unchangedB := guardedDoubt(b)
			got, ok := impl.JoinDoubts(argA, argB)
			want := impl.Doubt{Colours: union(a.Colours, b.Colours), Size: max(a.Size, b.Size), Places: union(a.Places, b.Places), Hours: max(a.Hours, b.Hours)}
			wantOk := len(want.Places) <= 9
			if !wantOk {
				want = impl.Doubt{}
			}
			if fmt.Sprint(got) != fmt.Sprint(want) || ok != wantOk {
				t.Errorf("JoinDoubts(%+v, %+v) = %+v, %v, want %+v, %v", a, b, got, ok, want, wantOk)
			}
			overwrite(got.Colours, -1)
			overwrite(got.Places, -1)
			unchangedA(t)
			unchangedB(t)
		}
	}
	for _, bad := range invalidDoubts() {
		for _, d := range []impl.Doubt{{}, someDoubt(), bad} {
			for _, pair := range [][2]impl.Doubt{{bad, d}, {d, bad}} {
				got, ok := impl.JoinDoubts(pair[0], pair[1])
				if fmt.Sprint(got) != fmt.Sprint(impl.Doubt{}) || ok {
					t.Errorf("JoinDoubts(%+v, %+v) = %+v, %v", pair[0], pair[1], got, ok)
				}
			}
		}
	}
}

// rivals has reports of which some are wider than others, and some are not.
func rivals() []impl.Report {
	var l []impl.Report
	for _, colours := range [][]int{nil, {3}, {2, 3}, {2, 4}, everyColour} {
		for _, places := range [][]int{nil, {5}, {1, 6}, {1, 5, 6}} {
			for _, sizes := range [][2]int{{1, 50}, {4, 4}, {4, 9}, {5, 9}, {10, 10}} {
				for _, s := range []impl.Span{span(20, 31), span(21, 30), span(40, 40)} {
					l = append(l, impl.Report{Id: len(l)%999 + 1, Kind: impl.KdBag, Colours: colours, SizeLow: sizes[0], SizeHigh: sizes[1], Places: places, Span: s})
				}
			}
		}
	}
	coat := bagReport(7)
	coat.Kind = impl.KdCoat
	return append(l, coat)
}

func hasAll(a []int, b []int) bool {
	if len(a) == 0 {
		return true
	}
	for _, n := range b {
		if !slices.Contains(a, n) {
			return false
		}
	}
	return len(b) > 0
}

func TestIsWider(t *testing.T) {
	for _, a := range rivals() {
		for _, b := range rivals() {
			want := a.Kind == b.Kind && hasAll(a.Colours, b.Colours) && a.SizeLow <= b.SizeLow && a.SizeHigh >= b.SizeHigh && hasAll(a.Places, b.Places) && a.Span.From <= b.Span.From
			checkValue(t, impl.IsWider(a, b), want, "IsWider(%+v, %+v)", a, b)
		}
	}
	for _, bad := range invalidReports() {
		r := vagueReport(3)
		r.Kind, bad.Kind = impl.KdBag, impl.KdBag
		if !impl.IsReport(bad) {
			checkValue(t, impl.IsWider(r, bad), false, "IsWider(.., %+v)", bad)
			checkValue(t, impl.IsWider(bad, r), false, "IsWider(%+v, ..)", bad)
			checkValue(t, impl.IsWider(bad, bad), false, "IsWider(%+v, itself)", bad)
		}
	}
}

// inBoth has the numbers of both lists, of which an empty one has all; it is false if nothing is left.
func inBoth(a []int, b []int) ([]int, bool) {
	if len(a) == 0 || len(b) == 0 {
		return append(slices.Clone(a), b...), true
	}
	var l []int
	for n := range 100 {
		if slices.Contains(a, n) && slices.Contains(b, n) {
			l = append(l, n)
		}
	}
	return l, len(l) > 0
}

func wantSharpen(a impl.Report, b impl.Report) (impl.Report, bool) {
	colours, someColours := inBoth(a.Colours, b.Colours)
	places, somePlaces := inBoth(a.Places, b.Places)
	low, high, from, until := max(a.SizeLow, b.SizeLow), min(a.SizeHigh, b.SizeHigh), max(a.Span.From, b.Span.From), min(a.Span.Until, b.Span.Until)
	if a.Kind != b.Kind || !someColours || !somePlaces || low > high {
		return impl.Report{}, false
	}
	return impl.Report{Id: a.Id, Kind: a.Kind, Colours: colours, SizeLow: low, SizeHigh: high, Places: places, Span: span(from, max(from, until))}, true
}

func TestSharpen(t *testing.T) {
	for _, a := range rivals() {
		for _, b := range rivals() {
			argA, unchangedA := guardedReport(a)
			argB, unchangedB := guardedReport(b)
			got, ok := impl.Sharpen(argA, argB)
			want, wantOk := wantSharpen(a, b)
			checkValue(t, ok, wantOk, "Sharpen(%+v, %+v)", a, b)
			checkReport(t, got, want, "Sharpen(%+v, %+v)", a, b)
			overwriteReport(got)
			unchangedA(t)
			unchangedB(t)
		}
	}
}

func TestSharpenAllowsJustWhatBothAllow(t *testing.T) {
	finds := slices.DeleteFunc(someFinds(), func(f impl.Find) bool { return f.At > 56 || f.At < 19 })
	all := rivals()
	for i, a := range all {
		for j := i % 7; j < len(all); j += 7 {
			b := all[j]
			s, ok := impl.Sharpen(a, b)
			if ok && (!impl.IsReport(s) || impl.IsWider(a, b) && !impl.IsWider(s, b)) {
				t.Errorf("Sharpen(%+v, %+v) = %+v", a, b, s)
			}
			for _, f := range finds {
				if both := impl.CanBe(a, f) && impl.CanBe(b, f); both != (ok && impl.CanBe(s, f)) {
					t.Errorf("Sharpen(%+v, %+v) = %+v, %v, wrong for %+v", a, b, s, ok, f)
				}
			}
		}
	}
}

func TestSharpenRejects(t *testing.T) {
	for _, bad := range invalidReports() {
		r := vagueReport(3)
		if impl.InRange(bad.Kind, 1, 8) {
			r.Kind = bad.Kind
		}
		for _, pair := range [][2]impl.Report{{r, bad}, {bad, r}, {bad, bad}} {
			got, ok := impl.Sharpen(pair[0], pair[1])
			checkReport(t, got, impl.Report{}, "Sharpen(%+v, %+v)", pair[0], pair[1])
			checkValue(t, ok, false, "Sharpen(%+v, %+v)", pair[0], pair[1])
		}
	}
}
