package tests

import (
	"math"
	"slices"
	"testing"

	"loop.example/g03007/impl"
)

func hand(thing int, holder int, who int, at int) impl.Hand {
	return impl.Hand{Thing: thing, Holder: holder, Who: who, At: at}
}

// sealed gives the hands the seals that they should have.
func sealed(l ...impl.Hand) []impl.Hand {
	chain := slices.Clone(l)
	before := 0
	for i := range chain {
		before = wantHash(before, l[i].Thing, l[i].Holder, l[i].Who, l[i].At)
		chain[i].Seal = before
	}
	return chain
}

// someChain has four things: with the house, with another house, with an owner, and gone.
func someChain() []impl.Hand {
	return sealed(
		hand(2, impl.HdFinder, 7, 5), hand(4, impl.HdHouse, 1, 6), hand(2, impl.HdHouse, 1, 9), hand(9, impl.HdFinder, 0, 9),
		hand(2, impl.HdHouse, 3, 20), hand(6, impl.HdHouse, 1, 20), hand(9, impl.HdHouse, 1, 20), hand(6, impl.HdOwner, 999, 30),
		hand(3, impl.HdHouse, 1, 30), hand(3, impl.HdGone, 0, 30), hand(1, impl.HdHouse, 1, 30), hand(9, impl.HdBuyer, 50, impl.MaxHour),
	)
}

// longChain has as many hands of one thing as this.
func longChain(count int) []impl.Hand {
	return sealed(slices.Repeat([]impl.Hand{hand(5, impl.HdHouse, 1, 7)}, count)...)
}

var handFields = []field[impl.Hand]{
	{1, 999, func(x *impl.Hand, n int) { x.Thing = n }},
	{1, 5, func(x *impl.Hand, n int) { x.Holder = n }},
	{0, 999, func(x *impl.Hand, n int) { x.Who = n }},
	{0, 100000, func(x *impl.Hand, n int) { x.At = n }},
}

func invalidChains() [][]impl.Hand {
	l := [][]impl.Hand{
		{{}}, make([]impl.Hand, 101), longChain(101), longChain(102),
		// The hours descend.
		sealed(hand(2, impl.HdHouse, 1, 5), hand(4, impl.HdHouse, 1, 4)), sealed(hand(2, impl.HdHouse, 1, 5), hand(4, impl.HdHouse, 1, 6), hand(6, impl.HdHouse, 1, 5)),
		sealed(hand(2, impl.HdHouse, 1, 5), hand(2, impl.HdFinder, 1, 6)), sealed(hand(2, impl.HdFinder, 1, 5), hand(2, impl.HdFinder, 1, 6)),
	}
	for _, holder := range []int{impl.HdOwner, impl.HdBuyer, impl.HdGone} {
		l = append(l, sealed(hand(2, holder, 1, 5)), sealed(hand(4, impl.HdHouse, 1, 5), hand(2, holder, 1, 5)))
		for next := impl.HdFinder; next <= impl.HdGone; next++ {
			l = append(l, sealed(hand(2, impl.HdHouse, 1, 5), hand(2, holder, 1, 6), hand(2, next, 1, 7)))
			l = append(l, sealed(hand(2, impl.HdHouse, 1, 5), hand(2, holder, 1, 6), hand(4, impl.HdHouse, 1, 6), hand(2, next, 1, 7)))
		}
	}
	for _, bad := range beyondLimits(hand(2, impl.HdHouse, 1, 20), handFields) {
		l = append(l, sealed(bad), sealed(hand(9, impl.HdHouse, 1, 0), bad), sealed(hand(2, impl.HdHouse, 1, 0), bad))
	}
	for i := range someChain() {
		for _, change := range []func(x *impl.Hand){
			func(x *impl.Hand) { x.Seal++ }, func(x *impl.Hand) { x.Seal = 0 }, func(x *impl.Hand) { x.Seal -= impl.Modulus },
			func(x *impl.Hand) { x.Thing += 10 }, func(x *impl.Hand) { x.Who++ }, func(x *impl.Hand) { x.Who-- }, func(x *impl.Hand) { x.At++ }, func(x *impl.Hand) { x.Holder++ },
		} {
			chain := someChain()
			change(&chain[i])
			l = append(l, chain)
		}
		if i > 0 {
			l = append(l, someChain()[i:], slices.Delete(someChain(), i-1, i))
		}
	}
	return l
}

func TestHandConstants(t *testing.T) {
	checkList(t, []int{impl.HdFinder, impl.HdHouse, impl.HdOwner, impl.HdBuyer, impl.HdGone}, []int{1, 2, 3, 4, 5}, "the holders")
}

func TestHandSeal(t *testing.T) {
	for _, before := range []int{0, 1, -1, 77, impl.Modulus, math.MaxInt, math.MinInt} {
		for _, x := range append(someChain(), impl.Hand{}, hand(-1, -2, -3, -4), hand(math.MinInt, math.MaxInt, math.MinInt, math.MaxInt)) {
			checkValue(t, impl.HandSeal(before, x), wantHash(before, x.Thing, x.Holder, x.Who, x.At), "HandSeal(%d, %+v)", before, x)
		}
	}
}

func TestIsChain(t *testing.T) {
	for count := range len(someChain()) + 1 {
		arg, unchanged := guarded(someChain()[:count], impl.Hand{})
		checkValue(t, impl.IsChain(arg), true, "IsChain(%v)", arg)
		unchanged(t)
	}
	checkValue(t, impl.IsChain(nil), true, "IsChain(nil)")
	checkValue(t, impl.IsChain(longChain(99)), true, "IsChain of 99 hands")
	checkValue(t, impl.IsChain(longChain(100)), true, "IsChain of 100 hands")
	for _, l := range invalidChains() {
		checkValue(t, impl.IsChain(l), false, "IsChain(%v)", l)
	}
}

func TestIsChainAtTheLimits(t *testing.T) {
	for _, x := range atLimits(hand(2, impl.HdHouse, 1, 20), handFields) {
		l := sealed(x)
		checkValue(t, impl.IsChain(l), x.Holder <= impl.HdHouse, "IsChain(%v)", l)
		l = sealed(hand(2, impl.HdHouse, 5, 0), hand(1, impl.HdHouse, 5, 0), hand(500, impl.HdHouse, 5, 0), hand(998, impl.HdHouse, 5, 0), hand(999, impl.HdHouse, 5, 0), x)
		checkValue(t, impl.IsChain(l), x.Holder != impl.HdFinder, "IsChain(%v)", l)
	}
	for first := impl.HdFinder; first <= impl.HdGone; first++ {
		for next := impl.HdFinder; next <= impl.HdGone; next++ {
			l := sealed(hand(2, first, 1, 5), hand(2, next, 1, 5))
			checkValue(t, impl.IsChain(l), first <= impl.HdHouse && next >= impl.HdHouse, "IsChain(%v)", l)
			checkValue(t, impl.IsChain(sealed(hand(2, first, 1, 5), hand(4, next, 1, 5))), first <= impl.HdHouse && next <= impl.HdHouse, "IsChain of two things")
		}
	}
}

// checkAddHand also checks that the result is new memory.
func checkAddHand(t *testing.T, l []impl.Hand, x impl.Hand, want []impl.Hand, wantOk bool) {
	t.Helper()
	arg, unchanged := guarded(l, hand(1, 1, 1, 1))
	got, ok := impl.AddHand(arg, x)
	checkList(t, got, want, "AddHand(%v, %v)", l, x)
	checkValue(t, ok, wantOk, "AddHand(%v, %v)", l, x)
	overwrite(got, impl.Hand{})
	unchanged(t)
}

func TestAddHand(t *testing.T) {
	chain := someChain()
	for i, x := range chain {
		for _, seal := range []int{0, -1, x.Seal, x.Seal + 1, math.MaxInt} {
			y := x
			y.Seal = seal
			checkAddHand(t, chain[:i], y, chain[:i+1], true)
		}
	}
	checkAddHand(t, longChain(99), hand(5, impl.HdHouse, 1, 7), longChain(100), true)
	checkAddHand(t, longChain(100), hand(5, impl.HdHouse, 1, 7), longChain(100), false)
}

func TestAddHandRejects(t *testing.T) {
	chain := someChain()[:11]
	for _, x := range []impl.Hand{
		hand(6, impl.HdHouse, 1, 31), hand(6, impl.HdOwner, 1, 31), hand(3, impl.HdGone, 0, 31), hand(2, impl.HdFinder, 7, 31), hand(50, impl.HdOwner, 7, 31),
		hand(50, impl.HdBuyer, 7, 31), hand(50, impl.HdGone, 7, 31), hand(2, impl.HdHouse, 1, 29), hand(50, impl.HdHouse, 1, 0), {},
	} {
		checkAddHand(t, chain, x, chain, false)
	}
	for _, x := range beyondLimits(hand(2, impl.HdHouse, 1, 31), handFields) {
		checkAddHand(t, chain, x, chain, false)
		checkAddHand(t, nil, x, nil, false)
	}
	for _, bad := range invalidChains() {
		checkAddHand(t, bad, hand(77, impl.HdHouse, 1, impl.MaxHour), bad, false)
	}
}

// wantHolder goes through all hands.
func wantHolder(l []impl.Hand, thing int, hour int) (int, int) {
	holder, who := 0, 0
	for _, x := range l {
		if x.Thing == thing && x.At <= hour {
			holder, who = x.Holder, x.Who
		}
	}
	return holder, who
}

func TestAtEveryHourAThingHasOneHolder(t *testing.T) {
	for count := range len(someChain()) + 1 {
		l := someChain()[:count]
		for thing := -1; thing <= 11; thing++ {
			for _, hour := range append(someHours, 6, 7, 8, 9, 10, 19, 20, 21, 29, 30, 31) {
				holder, who := wantHolder(l, thing, hour)
				arg, unchanged := guarded(l, hand(thing, impl.HdHouse, 8, 5))
				gotHolder, gotWho := impl.HolderAt(arg, thing, hour)
				checkValue(t, gotHolder, holder, "HolderAt(%v, %d, %d)", l, thing, hour)
				checkValue(t, gotWho, who, "the Who of HolderAt(%v, %d, %d)", l, thing, hour)
				unchanged(t)
			}
		}
	}
}

func TestHandsOfTheSameHour(t *testing.T) {
	l := sealed(hand(2, impl.HdFinder, 7, 5), hand(2, impl.HdHouse, 1, 5), hand(4, impl.HdHouse, 2, 5), hand(2, impl.HdHouse, 3, 5), hand(2, impl.HdOwner, 60, 5))
	for count, want := range [][2]int{{0, 0}, {impl.HdFinder, 7}, {impl.HdHouse, 1}, {impl.HdHouse, 1}, {impl.HdHouse, 3}, {impl.HdOwner, 60}} {
		for _, hour := range []int{5, 6, impl.MaxHour} {
			holder, who := impl.HolderAt(l[:count], 2, hour)
			checkValue(t, [2]int{holder, who}, want, "HolderAt(%v, 2, %d)", l[:count], hour)
		}
		holder, who := impl.HolderAt(l[:count], 2, 4)
		checkValue(t, [2]int{holder, who}, [2]int{}, "HolderAt(%v, 2, 4)", l[:count])
	}
	checkList(t, impl.InHouse(l[:4], 3), []int{2}, "InHouse after the last of the hands")
	checkList(t, impl.InHouse(l[:4], 1), nil, "InHouse after the last of the hands")
	checkList(t, impl.HandsOf(l, 2), []impl.Hand{l[0], l[1], l[3], l[4]}, "HandsOf")
}

func TestInHouse(t *testing.T) {
	for count := range len(someChain()) + 1 {
		l := someChain()[:count]
		for house := -1; house <= 10; house++ {
			var want []int
			for thing := range 20 {
				if holder, who := wantHolder(l, thing, impl.MaxHour); holder == impl.HdHouse && who == house {
					want = append(want, thing)
				}
			}
			arg, unchanged := guarded(l, hand(8, impl.HdHouse, house, 5))
			checkList(t, impl.InHouse(arg, house), want, "InHouse(%v, %d)", l, house)
			unchanged(t)
		}
	}
	// The things come in another order than in the list.
	l := sealed(hand(9, impl.HdHouse, 1, 5), hand(2, impl.HdHouse, 1, 5), hand(7, impl.HdHouse, 1, 5), hand(999, impl.HdHouse, 1, 5), hand(1, impl.HdHouse, 1, 5))
	for range 20 {
		checkList(t, impl.InHouse(l, 1), []int{1, 2, 7, 9, 999}, "InHouse")
	}
	checkList(t, impl.InHouse(sealed(hand(9, impl.HdHouse, 0, 5)), 0), []int{9}, "InHouse of a house that nobody knows")
}

func TestChainsThatAreNotValid(t *testing.T) {
	for _, l := range invalidChains() {
		for _, x := range l {
			holder, who := impl.HolderAt(l, x.Thing, impl.MaxHour)
			checkValue(t, [2]int{holder, who}, [2]int{}, "HolderAt(%v, %d, ..)", l, x.Thing)
			checkList(t, impl.InHouse(l, x.Who), nil, "InHouse(%v, %d)", l, x.Who)
		}
	}
}

func TestHandsOf(t *testing.T) {
	for _, l := range append(invalidChains(), nil, someChain(), longChain(100)) {
		for _, thing := range []int{-1, 0, 2, 4, 5, 9, 999} {
			var want []impl.Hand
			for _, x := range l {
				if x.Thing == thing {
					want = append(want, x)
				}
			}
			arg, unchanged := guarded(l, hand(thing, 2, 2, 2))
			got := impl.HandsOf(arg, thing)
			checkList(t, got, want, "HandsOf(%v, %d)", l, thing)
			overwrite(got, impl.Hand{})
			unchanged(t)
		}
	}
}
