package tests

import (
	"math"
	"testing"

	"loop.example/g03007/impl"
)

// worthFind is found at the hour 0.
func worthFind(kind int, worth int, finder int) impl.Find {
	return impl.Find{Thing: impl.Thing{Id: 2, Kind: kind, Colour: 1, Size: 4, Worth: worth}, Place: 1, Finder: finder}
}

// claimsIn has a claim for the thing 2 in each of the states, between claims for others.
func claimsIn(states ...int) []impl.Claim {
	l := []impl.Claim{claim(1, 1, 1, 0, impl.ClOpen), claim(2, 1, 3, 0, impl.ClProved)}
	for i, state := range states {
		l = append(l, claim(10+i, 10+i, 2, i, state))
	}
	return append(l, claim(99, 1, 22, 0, impl.ClOpen), claim(100, 2, 22, 0, impl.ClProved))
}

func someClaimLists() [][]impl.Claim {
	l := [][]impl.Claim{nil, claimsIn()}
	for a := range 5 {
		l = append(l, claimsIn(a))
		for b := range 5 {
			l = append(l, claimsIn(a, b), claimsIn(3, a, b))
		}
	}
	return l
}

func someWorths() []impl.Find {
	var l []impl.Find
	for kind := impl.KdBag; kind <= impl.KdOther; kind++ {
		for _, worth := range []int{0, 1, 2, 900, 4999, 5000, 5001, 5002, 10000000} {
			for _, finder := range []int{0, 1, 999} {
				l = append(l, worthFind(kind, worth, finder))
			}
		}
	}
	return l
}

func wantFate(f impl.Find, l []impl.Claim, now int) int {
	states := map[int]bool{}
	for _, x := range l {
		if x.Thing == f.Thing.Id {
			states[x.State] = true
		}
	}
	isDue := impl.IsFind(f) && now >= f.At+24*wantDays[f.Thing.Kind]
	switch {
	case states[impl.ClProved]:
		return impl.FtServe
	case !isDue || states[impl.ClOpen]:
		return impl.FtKeep
	case f.Thing.Kind == impl.KdFood || f.Thing.Worth == 0:
		return impl.FtThrow
	case f.Thing.Worth > 5000:
		return impl.FtSell
	case f.Finder > 0:
		return impl.FtFinder
	}
	return impl.FtGive
}

func TestFateConstants(t *testing.T) {
	checkList(t, []int{impl.FtKeep, impl.FtServe, impl.FtFinder, impl.FtSell, impl.FtGive, impl.FtThrow}, []int{0, 1, 2, 3, 4, 5}, "the fates")
}

func TestFateOf(t *testing.T) {
	met := map[int]int{}
	for _, f := range append(someWorths(), invalidFinds()...) {
		due := f.At + 24*wantDays[f.Thing.Kind]
		for _, l := range someClaimLists() {
			for _, now := range []int{math.MinInt, 0, due - 1, due, 99999, math.MaxInt} {
				want := wantFate(f, l, now)
				met[want]++
				arg, unchanged := guarded(l, claim(50, 5, f.Thing.Id, 0, impl.ClProved))
				checkValue(t, impl.FateOf(f, arg, now), want, "FateOf(%+v, %+v, %d)", f, l, now)
				checkValue(t, impl.MustKeep(f, arg, now), want == impl.FtKeep || want == impl.FtServe, "MustKeep(%+v, %+v, %d)", f, l, now)
				unchanged(t)
			}
		}
	}
	for fate := range 6 {
		if met[fate] == 0 {
			t.Errorf("no find has the fate %d", fate)
		}
	}
}

func TestFateOfAFindThatIsNotValid(t *testing.T) {
	for _, f := range invalidFinds() {
		proved := []impl.Claim{claim(1, 1, f.Thing.Id, 0, impl.ClProved)}
		for _, now := range []int{math.MinInt, 0, 99999, math.MaxInt} {
			checkValue(t, impl.FateOf(f, nil, now), impl.FtKeep, "FateOf(%+v, nil, %d)", f, now)
			checkValue(t, impl.FateOf(f, proved, now), impl.FtServe, "FateOf(%+v, %+v, %d)", f, proved, now)
		}
	}
}

func TestClaimsThatAreOpenForEver(t *testing.T) {
	f := worthFind(impl.KdFood, 0, 0)
	for _, now := range []int{0, 23, 24, 25, impl.MaxHour, 200000, math.MaxInt} {
		for _, l := range [][]impl.Claim{claimsIn(impl.ClOpen), claimsIn(impl.ClFailed, impl.ClOpen), claimsIn(impl.ClServed, impl.ClOpen, impl.ClFailed)} {
			checkValue(t, impl.FateOf(f, l, now), impl.FtKeep, "FateOf(.., %+v, %d)", l, now)
			checkValue(t, impl.MustKeep(f, l, now), true, "MustKeep(.., %+v, %d)", l, now)
		}
	}
	checkValue(t, impl.FateOf(f, claimsIn(impl.ClFailed), 24), impl.FtThrow, "FateOf when the claim failed")
}

func TestFatesOf(t *testing.T) {
	finds := append(someWorths(), invalidFinds()...)
	for _, l := range someClaimLists() {
		for _, now := range []int{-1, 23, 24, 2159, 2160, 4319, 4320} {
			var want []int
			for _, f := range finds {
				want = append(want, wantFate(f, l, now))
			}
			arg, unchanged := guarded(finds, impl.Find{})
			checkList(t, impl.FatesOf(arg, l, now), want, "FatesOf(.., %+v, %d)", l, now)
			unchanged(t)
		}
	}
	checkList(t, impl.FatesOf(nil, claimsIn(impl.ClOpen), 5), nil, "FatesOf no finds")
	checkList(t, impl.FatesOf([]impl.Find{worthFind(1, 900, 7), worthFind(1, 0, 7), worthFind(7, 900, 7)}, nil, 2160), []int{2, 5, 5}, "FatesOf")
}

func TestFateName(t *testing.T) {
	checkNames(t, impl.FateName, []string{"keep", "serve", "finder", "sell", "give", "throw"})
}

func TestCountFate(t *testing.T) {
	fates := []int{2, 5, 5, 0, 1, 5, 0, -1, 77}
	for fate, want := range map[int]int{0: 2, 1: 1, 2: 1, 3: 0, 4: 0, 5: 3, 6: 0, -1: 1, 77: 1, math.MaxInt: 0, math.MinInt: 0} {
		arg, unchanged := guarded(fates, fate)
		checkValue(t, impl.CountFate(arg, fate), want, "CountFate(.., %d)", fate)
		unchanged(t)
	}
	checkValue(t, impl.CountFate(nil, 0), 0, "CountFate of no fates")
}
