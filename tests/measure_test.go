package tests

import (
	"math"
	"testing"

	"loop.example/g03007/impl"
)

// measuredFinds has lists of finds, some of which are not valid.
func measuredFinds() [][]impl.Find {
	l := [][]impl.Find{nil, {}, {leastFind}, {greatestFind}, findsFrom(1, 20), findOfEach(10), mixedFinds(), taskFinds(), fullHouse().Finds, invalidFinds()}
	return append(append(l, twinLists()...), invalidFindLists()...)
}

func TestCountKind(t *testing.T) {
	for _, l := range measuredFinds() {
		arg, unchanged := guarded(l, findOf(999, 1, 1))
		total := 0
		for _, kind := range []int{math.MinInt, -1, 0, 1, 2, 3, 4, 5, 6, 7, 8, 9, 10, math.MaxInt} {
			want := 0
			for _, f := range l {
				if f.Thing.Kind == kind {
					want++
				}
			}
			total += want
			checkValue(t, impl.CountKind(arg, kind), want, "CountKind(%+v, %d)", l, kind)
		}
		if impl.AreFinds(l) {
			checkValue(t, total, len(l), "the sum of all CountKind(%+v, ..)", l)
		}
		unchanged(t)
	}
}

func findsAt(places ...int) []impl.Find {
	var l []impl.Find
	for i, place := range places {
		l = append(l, findOf(2*i+2, place, 50-i))
	}
	return l
}

func TestBusiestPlace(t *testing.T) {
	for _, c := range []struct {
		places []int
		want   int
	}{
		{nil, 0}, {[]int{5}, 5}, {[]int{30}, 30}, {[]int{1}, 1}, {[]int{5, 3}, 3}, {[]int{3, 5}, 3}, {[]int{5, 3, 5}, 5}, {[]int{3, 5, 5}, 5}, {[]int{5, 5, 3}, 5}, {[]int{30, 1, 30, 1}, 1},
		{[]int{9, 8, 7, 6, 9}, 9}, {[]int{7, 7, 9, 9, 9, 8, 8}, 9}, {[]int{7, 7, 7, 9, 9, 9, 8, 8, 8}, 7}, {[]int{30, 30, 29, 29, 1}, 29},
	} {
		arg, unchanged := guarded(findsAt(c.places...), findOf(999, 1, 1))
		checkValue(t, impl.BusiestPlace(arg), c.want, "BusiestPlace(%v)", c.places)
		unchanged(t)
	}
	for _, l := range invalidFindLists() {
		checkValue(t, impl.BusiestPlace(l), 0, "BusiestPlace(%+v)", l)
	}
	for _, f := range invalidFinds() {
		checkValue(t, impl.BusiestPlace([]impl.Find{f}), 0, "BusiestPlace(%+v)", f)
	}
}

func TestServedShare(t *testing.T) {
	for finds := range 21 {
		for served := range 21 {
			h := impl.House{Finds: findsFrom(1, finds)}
			for i := range 20 {
				state := impl.ClServed
				if i >= served {
					state = i % 3
				}
				h.Claims = append(h.Claims, claim(i+1, 5, i+1, 0, state))
			}
			want := 0
			if finds > 0 {
				want = int(math.Floor(float64(100*served) / float64(finds)))
			}
			arg, unchanged := guardedHouse(h)
			checkValue(t, impl.ServedShare(arg), want, "ServedShare of %d served of %d", served, finds)
			unchanged(t)
		}
	}
	checkValue(t, impl.ServedShare(fullHouse()), 25, "ServedShare")
	// A claim of a state that is none of the four is not served.
	checkValue(t, impl.ServedShare(impl.House{Finds: findsFrom(1, 3), Claims: []impl.Claim{{State: 4}, {State: 3}, {State: -1}}}), 33, "ServedShare")
}

func TestHousesWithoutFinds(t *testing.T) {
	for _, h := range []impl.House{{}, emptyHouse(), {Claims: []impl.Claim{claim(1, 1, 1, 1, impl.ClServed)}}, {Finds: []impl.Find{}}} {
		checkValue(t, impl.ServedShare(h), 0, "ServedShare(%+v)", h)
		checkValue(t, impl.BusiestPlace(h.Finds), 0, "BusiestPlace of %+v", h)
		checkValue(t, impl.OldestFind(h.Finds), 0, "OldestFind of %+v", h)
		checkValue(t, impl.WorthOf(h.Finds), 0, "WorthOf %+v", h)
		checkValue(t, impl.CountKind(h.Finds, 0), 0, "CountKind of %+v", h)
	}
}

func TestWorthOf(t *testing.T) {
	for _, l := range measuredFinds() {
		want := 0
		for _, f := range l {
			want += min(max(f.Thing.Worth, 0), 10000000)
		}
		arg, unchanged := guarded(l, greatestFind)
		checkValue(t, impl.WorthOf(arg), want, "WorthOf(%+v)", l)
		unchanged(t)
	}
	worths := func(l ...int) []impl.Find {
		var finds []impl.Find
		for _, worth := range l {
			finds = append(finds, impl.Find{Thing: impl.Thing{Worth: worth}})
		}
		return finds
	}
	checkValue(t, impl.WorthOf(worths(-5, 20000000)), 10000000, "WorthOf")
	checkValue(t, impl.WorthOf(worths(-1, 0, 1, 9999999, 10000000, 10000001)), 30000000, "WorthOf")
	checkValue(t, impl.WorthOf(worths(math.MinInt, math.MaxInt, math.MaxInt, 7)), 20000007, "WorthOf")
}

func TestOpenClaims(t *testing.T) {
	for _, l := range append(someClaimLists(), nil, claimsFrom(1, 20), fullHouse().Claims, []impl.Claim{{State: -1}, {State: 4}, {}, {State: math.MinInt}}) {
		want := 0
		for _, x := range l {
			if x.State == 0 {
				want++
			}
		}
		arg, unchanged := guarded(l, impl.Claim{})
		checkValue(t, impl.OpenClaims(arg), want, "OpenClaims(%+v)", l)
		unchanged(t)
	}
}

func TestOldestFind(t *testing.T) {
	for _, l := range measuredFinds() {
		want, at := 0, 0
		for i, f := range l {
			if i == 0 || f.At < at {
				want, at = f.Thing.Id, f.At
			}
		}
		arg, unchanged := guarded(l, findOf(999, 1, math.MinInt))
		checkValue(t, impl.OldestFind(arg), want, "OldestFind(%+v)", l)
		unchanged(t)
	}
	checkValue(t, impl.OldestFind([]impl.Find{findOf(2, 1, 40), findOf(4, 1, 30), findOf(6, 1, 30)}), 4, "OldestFind of the same hour")
	checkValue(t, impl.OldestFind([]impl.Find{findOf(9, 1, math.MaxInt), findOf(4, 1, math.MinInt), findOf(6, 1, 0)}), 4, "OldestFind of invalid finds")
}
