package tests

import (
	"fmt"
	"math"
	"strings"
	"testing"

	"loop.example/g03007/impl"
)

var holderTexts = []string{"", "finder", "house", "owner", "buyer", "gone"}

// travels has a thing that goes to and fro between houses, and one that comes back to its house.
func travels() []impl.Hand {
	return sealed(
		hand(2, impl.HdFinder, 7, 5), hand(4, impl.HdHouse, 1, 6), hand(2, impl.HdHouse, 1, 9), hand(2, impl.HdHouse, 3, 20), hand(4, impl.HdHouse, 2, 20), hand(6, impl.HdFinder, 0, 20),
		hand(4, impl.HdHouse, 1, 20), hand(2, impl.HdHouse, 1, 33), hand(2, impl.HdOwner, 50, 44), hand(8, impl.HdHouse, 9, 50), hand(8, impl.HdGone, 0, 50), hand(4, impl.HdBuyer, 999, impl.MaxHour),
	)
}

func handsOf(l []impl.Hand, thing int) []impl.Hand {
	var hands []impl.Hand
	for _, x := range l {
		if x.Thing == thing {
			hands = append(hands, x)
		}
	}
	return hands
}

func storyChains() [][]impl.Hand {
	l := [][]impl.Hand{nil, {}, someChain(), storedThings(), longChain(100)}
	for count := range len(travels()) + 1 {
		l = append(l, travels()[:count])
	}
	return l
}

var storyThings = []int{math.MinInt, -1, 0, 1, 2, 3, 4, 5, 6, 8, 9, 10, 999, 1000, math.MaxInt}

func TestHolderText(t *testing.T) {
	checkNames(t, impl.HolderText, holderTexts)
	for _, holder := range []int{math.MinInt, math.MaxInt} {
		checkValue(t, impl.HolderText(holder), "", "HolderText(%d)", holder)
	}
}

func TestAStoryHasEveryHand(t *testing.T) {
	for _, l := range append(storyChains(), invalidChains()...) {
		for _, thing := range storyThings {
			story, end, count := "-", "-", 0
			var parts []string
			before := impl.Hand{}
			for _, x := range handsOf(l, thing) {
				end = impl.HolderText(x.Holder)
				parts = append(parts, fmt.Sprintf("%s%d+%d", end, x.Who, x.At))
				story = strings.Join(parts, " ")
				if x.Holder == impl.HdHouse && before.Holder == impl.HdHouse {
					count++
				}
				before = x
			}
			arg, unchanged := guarded(l, hand(thing, impl.HdHouse, 8, 5))
			checkValue(t, impl.StoryOf(arg, thing), story, "StoryOf(%v, %d)", l, thing)
			checkValue(t, impl.EndOf(arg, thing), end, "EndOf(%v, %d)", l, thing)
			checkValue(t, impl.TravelCount(arg, thing), count, "TravelCount(%v, %d)", l, thing)
			unchanged(t)
		}
	}
}

func TestStories(t *testing.T) {
	l := travels()
	for _, c := range []struct {
		thing      int
		story, end string
		count      int
	}{
		{2, "finder7+5 house1+9 house3+20 house1+33 owner50+44", "owner", 2},
		{4, "house1+6 house2+20 house1+20 buyer999+100000", "buyer", 2},
		{6, "finder0+20", "finder", 0},
		{8, "house9+50 gone0+50", "gone", 0},
		{9, "-", "-", 0},
	} {
		checkValue(t, impl.StoryOf(l, c.thing), c.story, "StoryOf the thing %d", c.thing)
		checkValue(t, impl.EndOf(l, c.thing), c.end, "EndOf the thing %d", c.thing)
		checkValue(t, impl.TravelCount(l, c.thing), c.count, "TravelCount of the thing %d", c.thing)
	}
	// A hand between two houses is no travel; a hand of another thing between them does not count.
	odd := []impl.Hand{hand(2, impl.HdHouse, 1, 5), hand(2, impl.HdFinder, 1, 5), hand(2, impl.HdHouse, 1, 5), hand(3, impl.HdFinder, 1, 5), hand(2, impl.HdHouse, -4, -9), hand(2, 6, 1, 5)}
	checkValue(t, impl.TravelCount(odd, 2), 1, "TravelCount")
	checkValue(t, impl.StoryOf(odd, 2), "house1+5 finder1+5 house1+5 house-4+-9 1+5", "StoryOf")
	checkValue(t, impl.EndOf(odd, 2), "", "EndOf")
}

// wantStay counts hour by hour.
func wantStay(l []impl.Hand, thing int, now int) int {
	hands := handsOf(l, thing)
	count := 0
	for hour := range now {
		holder := 0
		for _, x := range hands {
			if x.At <= hour {
				holder = x.Holder
			}
		}
		if holder == impl.HdHouse {
			count++
		}
	}
	return count
}

func TestStayHours(t *testing.T) {
	for _, l := range storyChains() {
		for _, thing := range storyThings {
			for _, now := range []int{0, 1, 4, 5, 6, 8, 9, 10, 19, 20, 21, 33, 34, 43, 44, 45, 50, 51, 99} {
				arg, unchanged := guarded(l, hand(thing, impl.HdHouse, 8, 5))
				checkValue(t, impl.StayHours(arg, thing, now), wantStay(l, thing, now), "StayHours(%v, %d, %d)", l, thing, now)
				unchanged(t)
			}
			for _, now := range []int{-1, -2, math.MinInt, impl.MaxHour + 1, impl.MaxHour + 2, math.MaxInt} {
				checkValue(t, impl.StayHours(l, thing, now), 0, "StayHours(%v, %d, %d)", l, thing, now)
			}
		}
	}
	for _, bad := range invalidChains() {
		for _, x := range bad {
			checkValue(t, impl.StayHours(bad, x.Thing, impl.MaxHour), 0, "StayHours(%v, %d, ..)", bad, x.Thing)
		}
	}
}

func TestStoriesWithoutAnEnd(t *testing.T) {
	l := travels()[:8]
	for _, thing := range []int{2, 4} {
		checkValue(t, impl.EndOf(l, thing), "house", "EndOf the thing %d", thing)
		for _, now := range []int{33, 34, 1000, impl.MaxHour} {
			first := map[int]int{2: 9, 4: 6}[thing]
			checkValue(t, impl.StayHours(l, thing, now), now-first, "StayHours of the thing %d until %d", thing, now)
		}
	}
	checkValue(t, impl.EndOf(l, 6), "finder", "EndOf what its finder has")
	checkValue(t, impl.StayHours(l, 6, impl.MaxHour), 0, "StayHours of what its finder has")
	checkValue(t, impl.StayHours(travels(), 2, impl.MaxHour), 35, "StayHours of what an owner has")
	checkValue(t, impl.StayHours(travels(), 4, impl.MaxHour), impl.MaxHour-6, "StayHours of what a buyer has since now")
	checkValue(t, impl.StayHours(travels(), 8, impl.MaxHour), 0, "StayHours of what was gone at once")
}
