package tests

import (
	"math"
	"slices"
	"testing"

	"loop.example/g03007/impl"
)

func letter(report int, thing int, at int) impl.Letter {
	return impl.Letter{Report: report, Thing: thing, At: at}
}

var letterFields = []field[impl.Letter]{
	{1, 999, func(x *impl.Letter, n int) { x.Report = n }},
	{1, 999, func(x *impl.Letter, n int) { x.Thing = n }},
	{0, 100000, func(x *impl.Letter, n int) { x.At = n }},
}

// lettersFrom has letters of as many reports, all at the same hour.
func lettersFrom(report int, count int) []impl.Letter {
	var l []impl.Letter
	for i := range count {
		l = append(l, letter(report+i, i%3+1, 7))
	}
	return l
}

func someLetters() [][]impl.Letter {
	return [][]impl.Letter{
		nil, {}, {letter(1, 1, 0)}, {letter(999, 999, impl.MaxHour)}, {letter(7, 2, 100), letter(3, 2, 100), letter(7, 4, 268)},
		{letter(7, 2, 100), letter(7, 4, 268), letter(7, 6, 436), letter(7, 8, 9999)}, {letter(7, 2, 100), letter(8, 2, 101), letter(9, 2, 101), letter(8, 3, 269)},
		lettersFrom(1, 59), lettersFrom(1, 60), lettersFrom(940, 60),
	}
}

func invalidLetters() [][]impl.Letter {
	l := [][]impl.Letter{
		{{}}, make([]impl.Letter, 61), lettersFrom(1, 61), lettersFrom(1, 62), lettersFrom(0, 2), lettersFrom(999, 2),
		// The hours descend.
		{letter(1, 2, 5), letter(2, 2, 4)}, {letter(1, 2, 5), letter(2, 2, 9), letter(3, 2, 8)}, {letter(1, 2, 500), letter(1, 3, 5)},
		// A report has the same thing twice.
		{letter(1, 2, 5), letter(1, 2, 900)}, {letter(1, 2, 5), letter(1, 3, 300), letter(2, 5, 301), letter(1, 2, 900)},
		// There is less than a week between two letters.
		{letter(1, 2, 5), letter(1, 4, 172)}, {letter(1, 2, 5), letter(1, 4, 5)}, {letter(1, 2, 5), letter(2, 4, 6), letter(1, 4, 172)}, {letter(1, 2, 5), letter(1, 4, 173), letter(1, 6, 340)},
	}
	for _, bad := range beyondLimits(letter(50, 5, 60), letterFields) {
		l = append(l, []impl.Letter{bad}, []impl.Letter{letter(1, 1, 0), bad}, []impl.Letter{bad, letter(1, 1, impl.MaxHour)})
	}
	return l
}

func TestAreLetters(t *testing.T) {
	checkValue(t, impl.WeekHours, 168, "WeekHours")
	for _, l := range someLetters() {
		arg, unchanged := guarded(l, letter(1, 1, 0))
		checkValue(t, impl.AreLetters(arg), true, "AreLetters(%v)", l)
		unchanged(t)
	}
	for _, x := range atLimits(letter(50, 5, 60), letterFields) {
		checkValue(t, impl.AreLetters([]impl.Letter{x}), true, "AreLetters(%v)", x)
	}
	for _, l := range invalidLetters() {
		checkValue(t, impl.AreLetters(l), false, "AreLetters(%v)", l)
	}
}

func TestLastAndCountLetters(t *testing.T) {
	for _, l := range append(append(someLetters(), invalidLetters()...), []impl.Letter{letter(7, 2, 100), letter(-3, 1, -9), letter(7, 2, 50), letter(0, 5, 4)}) {
		for _, report := range []int{math.MinInt, -3, -1, 0, 1, 2, 7, 8, 50, 999, math.MaxInt} {
			last, count := -1, 0
			for _, x := range l {
				if x.Report == report {
					last = x.At
					count++
				}
			}
			arg, unchanged := guarded(l, letter(report, 1, 77))
			checkValue(t, impl.LastLetter(arg, report), last, "LastLetter(%v, %d)", l, report)
			checkValue(t, impl.CountLetters(arg, report), count, "CountLetters(%v, %d)", l, report)
			unchanged(t)
		}
	}
}

// checkWriteLetter also checks that the result is new memory.
func checkWriteLetter(t *testing.T, l []impl.Letter, x impl.Letter, wantOk bool) {
	t.Helper()
	want := slices.Clone(l)
	if wantOk {
		want = append(want, x)
	}
	arg, unchanged := guarded(l, letter(1, 1, 1))
	checkValue(t, impl.MayWrite(arg, x.Report, x.Thing, x.At), wantOk, "MayWrite(%v, %v)", l, x)
	got, ok := impl.WriteLetter(arg, x.Report, x.Thing, x.At)
	checkList(t, got, want, "WriteLetter(%v, %v)", l, x)
	checkValue(t, ok, wantOk, "WriteLetter(%v, %v)", l, x)
	overwrite(got, impl.Letter{})
	unchanged(t)
}

func TestNobodyGetsTwoLettersWithinAWeek(t *testing.T) {
	l := []impl.Letter{letter(7, 2, 100), letter(3, 2, 110)}
	for _, c := range []struct {
		x    impl.Letter
		want bool
	}{
		{letter(7, 4, 110), false}, {letter(7, 4, 266), false}, {letter(7, 4, 267), false}, {letter(7, 4, 268), true}, {letter(7, 4, 269), true}, {letter(7, 4, impl.MaxHour), true},
		{letter(3, 4, 268), false}, {letter(3, 4, 277), false}, {letter(3, 4, 278), true}, {letter(5, 2, 110), true}, {letter(5, 2, 109), false}, {letter(5, 2, 0), false},
		{letter(7, 2, 900), false}, {letter(3, 2, 900), false}, {letter(7, 2, 111), false}, {letter(2, 7, 111), true},
	} {
		checkWriteLetter(t, l, c.x, c.want)
	}
	// Whatever is tried, there is a week between two letters of a report.
	var tried []impl.Letter
	for hour := range 2000 {
		tried, _ = impl.WriteLetter(tried, hour%2+1, hour/7%100+1, hour)
	}
	last := map[int]int{}
	for _, x := range tried {
		if before, ok := last[x.Report]; ok && x.At-before < 168 {
			t.Errorf("the report %d got letters at %d and %d", x.Report, before, x.At)
		}
		last[x.Report] = x.At
	}
	checkValue(t, impl.CountLetters(tried, 1), 12, "the letters of a report within 2000 hours")
}

func TestLettersAfterJustAWeek(t *testing.T) {
	l := []impl.Letter{letter(7, 1, 0)}
	for i := 1; i < 60; i++ {
		checkWriteLetter(t, l, letter(7, i+1, 168*i-1), false)
		checkWriteLetter(t, l, letter(7, i+1, 168*i), true)
		l, _ = impl.WriteLetter(l, 7, i+1, 168*i)
	}
	checkValue(t, len(l), 60, "the letters of sixty weeks")
	checkWriteLetter(t, l, letter(7, 61, 168*60), false)
	checkWriteLetter(t, l, letter(8, 61, 168*60), false)
}

func TestWriteLetterLimits(t *testing.T) {
	for _, x := range atLimits(letter(50, 5, 60), letterFields) {
		checkWriteLetter(t, nil, x, true)
	}
	for _, x := range beyondLimits(letter(50, 5, 60), letterFields) {
		checkWriteLetter(t, nil, x, false)
		checkWriteLetter(t, []impl.Letter{letter(1, 1, 0)}, x, false)
	}
	checkWriteLetter(t, lettersFrom(1, 59), letter(500, 1, 7), true)
	checkWriteLetter(t, lettersFrom(1, 60), letter(500, 1, 7), false)
	for _, bad := range invalidLetters() {
		checkWriteLetter(t, bad, letter(77, 77, impl.MaxHour), false)
	}
}

// wantLettersFor looks for the best candidate of each report without a letter.
func wantLettersFor(l []impl.Letter, reports []impl.Report, finds []impl.Find, now int) []impl.Letter {
	all := slices.Clone(l)
	for _, r := range reports {
		best, bestScore := 0, 0
		for _, f := range finds {
			isWritten := slices.ContainsFunc(all, func(x impl.Letter) bool { return x.Report == r.Id && x.Thing == f.Thing.Id })
			if score := wantScore(r, f); score > bestScore && !isWritten {
				best, bestScore = f.Thing.Id, score
			}
		}
		if bestScore > 0 {
			all, _ = impl.WriteLetter(all, r.Id, best, now)
		}
	}
	return all[len(l):]
}

// checkLettersFor also checks that the result is new memory.
func checkLettersFor(t *testing.T, l []impl.Letter, reports []impl.Report, finds []impl.Find, now int, want []impl.Letter) {
	t.Helper()
	arg, unchanged := guarded(l, letter(1, 1, 1))
	found, sameFinds := guarded(finds, leastFind)
	got := impl.LettersFor(arg, reports, found, now)
	checkList(t, got, want, "LettersFor(%v, %+v, %+v, %d)", l, reports, finds, now)
	overwrite(got, impl.Letter{})
	unchanged(t)
	sameFinds(t)
}

// seekers has reports that seek the same bags.
func seekers() []impl.Report {
	sharp := bagReport(7)
	sharp.SizeHigh = 12
	coat := vagueReport(9)
	coat.Kind = impl.KdCoat
	return []impl.Report{vagueReport(3), bagReport(5), sharp, coat, bagReport(12)}
}

func TestLettersFor(t *testing.T) {
	reports := seekers()
	finds := []impl.Find{findOf(2, 5, 60), findOf(4, 1, 40), findOf(6, 9, 40), findOf(8, 5, 19)}
	checkLettersFor(t, nil, reports, finds, 300, []impl.Letter{letter(3, 8, 300), letter(5, 4, 300), letter(7, 4, 300), letter(12, 4, 300)})
	checkLettersFor(t, []impl.Letter{letter(5, 4, 132), letter(7, 9, 133)}, reports, finds, 300, []impl.Letter{letter(3, 8, 300), letter(5, 2, 300), letter(12, 4, 300)})
	for _, now := range []int{0, 1, 168, 300, 999, impl.MaxHour} {
		var l []impl.Letter
		for week := range 6 {
			at := now + 100*week
			want := wantLettersFor(l, reports, finds, at)
			checkLettersFor(t, l, reports, finds, at, want)
			l = append(l, want...)
		}
	}
}

func TestLettersForOfTheSameScore(t *testing.T) {
	r := []impl.Report{vagueReport(3)}
	finds := []impl.Find{findOf(2, 5, 60), findOf(4, 1, 60), findOf(6, 9, 60)}
	var l []impl.Letter
	for i, id := range []int{2, 4, 6} {
		checkLettersFor(t, l, r, finds, 168*i, []impl.Letter{letter(3, id, 168*i)})
		l = append(l, letter(3, id, 168*i))
	}
	checkLettersFor(t, l, r, finds, 900, nil)
	// The later one fits better.
	finds[2].At = 24
	checkLettersFor(t, nil, r, finds, 900, []impl.Letter{letter(3, 6, 900)})
}

func TestLettersForThatCannotBeWritten(t *testing.T) {
	reports, finds := seekers(), []impl.Find{findOf(2, 5, 60)}
	for _, now := range []int{-1, math.MinInt, impl.MaxHour + 1, math.MaxInt, 499} {
		checkLettersFor(t, []impl.Letter{letter(77, 1, 500)}, reports, finds, now, nil)
	}
	checkLettersFor(t, lettersFrom(100, 58), reports, finds, 7, []impl.Letter{letter(3, 2, 7), letter(5, 2, 7)})
	checkLettersFor(t, lettersFrom(100, 60), reports, finds, 7, nil)
	checkLettersFor(t, nil, nil, finds, 7, nil)
	checkLettersFor(t, nil, reports, nil, 7, nil)
	for _, bad := range invalidLetters() {
		checkLettersFor(t, bad, reports, finds, impl.MaxHour, nil)
	}
	for _, bad := range [][]impl.Report{{bagReport(7), vagueReport(3)}, {vagueReport(3), vagueReport(3)}, {{}, vagueReport(3)}, {vagueReport(3), {}}, reportsFrom(1, 21)} {
		checkLettersFor(t, nil, bad, finds, 300, nil)
	}
	for _, bad := range [][]impl.Find{{findOf(4, 5, 60), findOf(2, 5, 60)}, {findOf(2, 5, 60), findOf(2, 5, 60)}, {findOf(2, 5, 60), {}}, findsFrom(1, 21)} {
		checkLettersFor(t, nil, reports, bad, 300, nil)
	}
}
