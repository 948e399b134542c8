package tests

import (
	"math"
	"slices"
	"testing"

	"loop.example/g03007/impl"
)

// findOf returns a find of a bag; nobody knows the finder.
func findOf(id int, place int, at int) impl.Find {
	return impl.Find{Thing: impl.Thing{Id: id, Kind: impl.KdBag, Colour: 3, Size: 4, Worth: 900}, Place: place, At: at}
}

var (
	leastFind    = impl.Find{Thing: leastThing, Place: 1, At: 0, Finder: 0}
	greatestFind = impl.Find{Thing: greatestThing, Place: impl.MaxPlace, At: impl.MaxHour, Finder: 999}
)

var findFields = []field[impl.Find]{
	{1, 30, func(x *impl.Find, n int) { x.Place = n }},
	{0, 100000, func(x *impl.Find, n int) { x.At = n }},
	{0, 999, func(x *impl.Find, n int) { x.Finder = n }},
}

// invalidFinds returns all that come from a valid find by moving one field, also of its thing, beyond its limits.
func invalidFinds() []impl.Find {
	l := []impl.Find{{}, {Place: 1}}
	for _, x := range invalidThings() {
		l = append(l, impl.Find{Thing: x, Place: 4, At: 5, Finder: 6})
	}
	for _, f := range []impl.Find{findOf(7, 4, 5), leastFind, greatestFind} {
		l = append(l, beyondLimits(f, findFields)...)
	}
	return l
}

func findsFrom(id int, count int) []impl.Find {
	var l []impl.Find
	for i := range count {
		l = append(l, findOf(id+i, i%impl.MaxPlace+1, 10*i))
	}
	return l
}

func TestMaxPlace(t *testing.T) {
	checkValue(t, impl.MaxPlace, 30, "MaxPlace")
}

func TestIsFind(t *testing.T) {
	for _, f := range []impl.Find{findOf(7, 4, 5), leastFind, greatestFind} {
		for _, g := range append(atLimits(f, findFields), f) {
			checkValue(t, impl.IsFind(g), true, "IsFind(%+v)", g)
		}
	}
	for _, f := range invalidFinds() {
		checkValue(t, impl.IsFind(f), false, "IsFind(%+v)", f)
	}
}

func TestAreFinds(t *testing.T) {
	for _, l := range [][]impl.Find{nil, {}, {leastFind}, {greatestFind}, {leastFind, findOf(7, 4, 5), greatestFind}, findsFrom(1, 2), findsFrom(1, 19), findsFrom(1, 20), findsFrom(980, 20)} {
		arg, unchanged := guarded(l, leastFind)
		checkValue(t, impl.AreFinds(arg), true, "AreFinds(%+v)", l)
		unchanged(t)
	}
	a, b, c := findOf(1, 9, 9), findOf(2, 8, 8), findOf(3, 7, 7)
	for _, l := range [][]impl.Find{findsFrom(1, 21), findsFrom(1, 22), findsFrom(0, 2), findsFrom(999, 2), {b, a}, {a, a}, {a, b, b}, {a, c, b}, {b, a, c}, {c, b, a}, {a, findOf(1, 2, 3)}} {
		checkValue(t, impl.AreFinds(l), false, "AreFinds(%+v)", l)
	}
	for _, f := range invalidFinds() {
		for at := range 3 {
			l := findsFrom(100, 3)
			// The invalid find alone is against the list, not its Id, if that is valid.
			if f.Thing.Id > 0 && f.Thing.Id < 1000 {
				f.Thing.Id = l[at].Thing.Id
			}
			l[at] = f
			checkValue(t, impl.AreFinds(l), false, "AreFinds(%+v)", l)
		}
	}
}

func TestFindThing(t *testing.T) {
	l := []impl.Find{findOf(4, 1, 1), findOf(2, 1, 1), findOf(9, 1, 1), findOf(2, 5, 5), findOf(0, 1, 1), findOf(-3, 1, 1)}
	for id, want := range map[int]int{4: 0, 2: 1, 9: 2, 0: 4, -3: 5, 1: -1, 3: -1, 10: -1, 999: -1, math.MaxInt: -1, math.MinInt: -1} {
		arg, unchanged := guarded(l, findOf(id, 2, 2))
		checkValue(t, impl.FindThing(arg, id), want, "FindThing(%d)", id)
		unchanged(t)
	}
	checkValue(t, impl.FindThing(nil, 0), -1, "FindThing in no finds")
}

// checkPutFind also checks that the result is new memory.
func checkPutFind(t *testing.T, l []impl.Find, f impl.Find, want []impl.Find, wantOk bool) {
	t.Helper()
	arg, unchanged := guarded(l, greatestFind)
	got, ok := impl.PutFind(arg, f)
	checkList(t, got, want, "PutFind(%+v, %+v)", l, f)
	checkValue(t, ok, wantOk, "PutFind(%+v, %+v)", l, f)
	overwrite(got, leastFind)
	unchanged(t)
}

func TestPutFindPutsIntoPlace(t *testing.T) {
	for _, ids := range [][]int{{1, 2, 3, 4}, {4, 3, 2, 1}, {2, 4, 1, 3}, {3, 1, 4, 2}, {999, 1, 500, 2}, {2, 999, 998, 1}} {
		var l []impl.Find
		for i, id := range ids {
			f := findOf(id, i+1, 100-i)
			f.Finder = i
			want := append(slices.Clone(l), f)
			slices.SortFunc(want, func(a, b impl.Find) int { return a.Thing.Id - b.Thing.Id })
			checkPutFind(t, l, f, want, true)
			l = want
		}
	}
}

func TestPutFindRejects(t *testing.T) {
	l := findsFrom(5, 4)
	for _, f := range l {
		checkPutFind(t, l, f, l, false)
		f.Place, f.At, f.Thing.Kind = 29, 99, impl.KdCoat
		checkPutFind(t, l, f, l, false)
	}
	for _, f := range invalidFinds() {
		checkPutFind(t, l, f, l, false)
		checkPutFind(t, nil, f, nil, false)
	}
	checkPutFind(t, findsFrom(5, 19), findOf(4, 1, 1), slices.Insert(findsFrom(5, 19), 0, findOf(4, 1, 1)), true)
	checkPutFind(t, findsFrom(5, 20), findOf(4, 1, 1), findsFrom(5, 20), false)
	checkPutFind(t, findsFrom(5, 21), findOf(4, 1, 1), findsFrom(5, 21), false)
	for _, bad := range [][]impl.Find{{l[1], l[0]}, {l[0], l[0]}, {findOf(7, 0, 1)}, {{}}, {findOf(-1, 1, 1)}} {
		for _, id := range []int{1, 4, 6, 9} {
			if impl.FindThing(bad, id) < 0 {
				checkPutFind(t, bad, findOf(id, 1, 1), bad, false)
			}
		}
	}
}

func TestFindsWithoutAFinder(t *testing.T) {
	known := findOf(3, 2, 30)
	known.Finder = 999
	unknown := findOf(2, 2, 30)
	checkPutFind(t, []impl.Find{known}, unknown, []impl.Find{unknown, known}, true)
	l := []impl.Find{unknown, known}
	checkList(t, impl.FoundAt(l, 2), []int{2, 3}, "FoundAt")
	checkList(t, impl.FoundIn(l, span(30, 30)), []int{2, 3}, "FoundIn")
	checkValue(t, impl.FindThing(l, 2), 0, "FindThing")
}

func TestFoundAt(t *testing.T) {
	lists := [][]impl.Find{nil, findsFrom(1, 20), {findOf(9, 2, 1), findOf(4, 2, 2), findOf(9, 3, 3), findOf(9, 2, 4)}, invalidFinds()}
	for _, l := range lists {
		for _, place := range []int{math.MinInt, -1, 0, 1, 2, 3, 19, 20, 21, 30, 31, math.MaxInt} {
			var want []int
			for _, f := range l {
				if f.Place == place {
					want = append(want, f.Thing.Id)
				}
			}
			arg, unchanged := guarded(l, findOf(77, place, 1))
			checkList(t, impl.FoundAt(arg, place), want, "FoundAt(%+v, %d)", l, place)
			unchanged(t)
		}
	}
}

func TestFoundIn(t *testing.T) {
	var l []impl.Find
	for i, hour := range someHours {
		l = append(l, findOf(50-i, 1, hour))
	}
	for _, s := range someSpans() {
		var want []int
		for i, hour := range someHours {
			if isWithin(hour, s) {
				want = append(want, 50-i)
			}
		}
		arg, unchanged := guarded(l, findOf(77, 1, s.From))
		checkList(t, impl.FoundIn(arg, s), want, "FoundIn(%v)", s)
		unchanged(t)
	}
	for _, s := range invalidSpans {
		checkList(t, impl.FoundIn(append(l, findOf(3, 1, s.From), findOf(4, 1, s.Until)), s), nil, "FoundIn(%v)", s)
	}
	checkList(t, impl.FoundIn(nil, span(0, impl.MaxHour)), nil, "FoundIn no finds")
}
