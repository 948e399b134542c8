package tests

import (
	"math"
	"slices"
	"testing"

	"loop.example/g03007/impl"
)

// givenAway has a bag, found at 0 by 7, that left its slot for this hand; nobody claims it.
func givenAway(holder int, who int, at int) impl.House {
	return after(saleHouse(900, 7), func(h *impl.House) {
		h.Now = at
		h.Slots[0].Thing = 0
		h.Chain = sealed(append(h.Chain, hand(2, holder, who, at))...)
	})
}

// claimedAway has one that was given away, and a claim for it in one of the states.
func claimedAway(holder int, who int, at int, x impl.Claim) impl.House {
	return after(givenAway(holder, who, at), func(h *impl.House) {
		h.Claims = []impl.Claim{x}
		h.Trials = []impl.Trial{{Claim: x.Id}}
		switch x.State {
		case impl.ClFailed:
			h.Trials[0] = trial(x.Id, 0, 2)
		case impl.ClProved, impl.ClServed:
			h.Trials[0] = trial(x.Id, 1, 0)
		}
	})
}

func withBook(l ...impl.Entry) impl.House {
	return after(fullHouse(), func(h *impl.House) { h.Book = l })
}

// An audited house has the fault that is found first.
type audited struct {
	house impl.House
	fault string
}

func auditedHouses() []audited {
	l := []audited{
		{fullHouse(), ""}, {emptyHouse(), ""}, {impl.House{}, "house"}, {saleHouse(900, 7), ""},
		{givenAway(impl.HdOwner, 7, 2160), ""}, {givenAway(impl.HdOwner, 7, 2159), "early"}, {givenAway(impl.HdOwner, 7, 0), "early"}, {givenAway(impl.HdOwner, 9, 2160), "owner"}, {givenAway(impl.HdOwner, 0, 2160), "owner"}, {givenAway(impl.HdOwner, 9, 2159), "owner"},
		{givenAway(impl.HdBuyer, 9, 2160), ""}, {givenAway(impl.HdBuyer, 9, 2159), "early"}, {givenAway(impl.HdBuyer, 7, 10), "early"}, {givenAway(impl.HdGone, 0, 2160), ""}, {givenAway(impl.HdGone, 0, 2159), "early"}, {givenAway(impl.HdGone, 0, 100000), ""},
		{givenAway(impl.HdHouse, 3, 10), ""}, {givenAway(impl.HdHouse, 1, 10), "house"},

		// Only a claim that was served for this thing by this person makes an owner.
		{claimedAway(impl.HdOwner, 12, 10, claim(3, 12, 2, 5, impl.ClServed)), ""}, {claimedAway(impl.HdOwner, 12, 2160, claim(3, 12, 2, 5, impl.ClServed)), ""}, {claimedAway(impl.HdOwner, 12, 10, claim(3, 13, 2, 5, impl.ClServed)), "owner"},
		{claimedAway(impl.HdOwner, 12, 10, claim(3, 12, 2, 5, impl.ClProved)), "owner"}, {claimedAway(impl.HdOwner, 12, 10, claim(3, 12, 2, 5, impl.ClOpen)), "owner"}, {claimedAway(impl.HdOwner, 12, 2160, claim(3, 12, 2, 5, impl.ClFailed)), "owner"},
		{claimedAway(impl.HdOwner, 7, 10, claim(3, 12, 2, 5, impl.ClServed)), "early"}, {claimedAway(impl.HdOwner, 7, 2160, claim(3, 12, 2, 5, impl.ClServed)), ""},
		{claimedAway(impl.HdBuyer, 12, 10, claim(3, 12, 2, 5, impl.ClServed)), "early"}, {claimedAway(impl.HdGone, 12, 10, claim(3, 12, 2, 5, impl.ClServed)), "early"},

		{withBook(), ""}, {withBook(entry(0, 3, 5, 5)), "book"}, {withBook(entry(3, 0, 5, 5)), ""}, {withBook(entry(3, 0, 5, 5), entry(0, 4, 5, 5)), ""}, {withBook(entry(3, 0, 5, 5), entry(0, 4, 6, 5)), "book"},
		{withBook(entry(0, 4, 6, 5), entry(3, 0, 6, 5)), ""}, {withBook(entry(3, 4, 5, 5)), ""}, {withBook(entry(3, 3, 5, 5)), "house"},
	}
	for _, c := range goodChanges() {
		h := fullHouse()
		c.apply(&h)
		fault := ""
		switch c.name {
		case "a find without a hand":
			fault = "account"
		}
		l = append(l, audited{h, fault})
	}
	for _, h := range invalidHouses() {
		l = append(l, audited{h, "house"})
	}
	// The first fault is named; there are several.
	unknown := givenAway(impl.HdBuyer, 9, 10)
	unknown.Chain = sealed(append(unknown.Chain, hand(44, impl.HdHouse, 5, 10), hand(44, impl.HdOwner, 5, 10))...)
	l = append(l, audited{unknown, "owner"})
	unknown.Finds, unknown.Secrets = append(unknown.Finds, findOf(3, 1, 0)), append(unknown.Secrets, secret(3, 0, mark(1, 1)))
	l = append(l, audited{unknown, "account"})
	foreign := givenAway(impl.HdHouse, 5, 10)
	foreign.Chain = sealed(append(foreign.Chain, hand(44, impl.HdHouse, 5, 10), hand(44, impl.HdGone, 0, 10))...)
	foreign.Book = []impl.Entry{entry(0, 1, 1, 1)}
	l = append(l, audited{foreign, "early"})
	// What was served to the owner is another thing.
	other := claimedAway(impl.HdOwner, 12, 10, claim(3, 12, 4, 5, impl.ClServed))
	other.Finds, other.Secrets = append(other.Finds, findOf(4, 1, 0)), append(other.Secrets, secret(4, 0, mark(1, 1)))
	other.Chain = sealed(append(other.Chain, hand(4, impl.HdHouse, 1, 10), hand(4, impl.HdOwner, 12, 10))...)
	return append(l, audited{other, "owner"})
}

// oddHouses are not valid in ways that the single checks can see.
func oddHouses() []impl.House {
	var l []impl.House
	for _, c := range auditedHouses() {
		for _, apply := range []func(h *impl.House){
			func(h *impl.House) {}, func(h *impl.House) { h.Slots = nil }, func(h *impl.House) { h.Chain = nil }, func(h *impl.House) { h.Finds = nil }, func(h *impl.House) { h.Claims = nil },
			func(h *impl.House) { h.No = 0 }, func(h *impl.House) { h.No = 5 }, func(h *impl.House) { h.Book = append(h.Book, entry(0, 0, 9, 9)) },
			func(h *impl.House) { h.Chain = append(h.Chain, impl.Hand{Thing: 2, Holder: 6, Who: 7, At: 3000}) },
			func(h *impl.House) {
				h.Chain = append(h.Chain, impl.Hand{Thing: 2, Holder: impl.HdOwner, Who: 7, At: 2160})
			},
			func(h *impl.House) { h.Finds = append([]impl.Find{findOf(2, 31, 0)}, h.Finds...) },
			func(h *impl.House) { h.Finds = append([]impl.Find{findOf(2, 1, 50)}, h.Finds...) },
		} {
			h := c.house
			h.Chain, h.Book = slices.Clip(h.Chain), slices.Clip(h.Book)
			apply(&h)
			l = append(l, h)
		}
	}
	return l
}

func hasServed(h impl.House, x impl.Hand) bool {
	return x.Holder == impl.HdOwner && slices.ContainsFunc(h.Claims, func(y impl.Claim) bool { return y.State == 3 && y.Thing == x.Thing && y.Who == x.Who })
}

func wantAccounted(h impl.House) bool {
	for _, f := range h.Finds {
		isInSlot := slices.ContainsFunc(h.Slots, func(s impl.Slot) bool { return s.Thing == f.Thing.Id && s.Thing != 0 })
		isInHouse := slices.Contains(impl.InHouse(h.Chain, h.No), f.Thing.Id)
		if len(handsOf(h.Chain, f.Thing.Id)) == 0 || !isInSlot && isInHouse {
			return false
		}
	}
	return true
}

func wantOwners(h impl.House) bool {
	for _, x := range h.Chain {
		at := slices.IndexFunc(h.Finds, func(f impl.Find) bool { return f.Thing.Id == x.Thing })
		isFinder := at >= 0 && h.Finds[at].Finder == x.Who
		if x.Holder == impl.HdOwner && !hasServed(h, x) && !isFinder {
			return false
		}
	}
	return true
}

func wantNeverEarly(h impl.House) bool {
	for _, x := range h.Chain {
		at := slices.IndexFunc(h.Finds, func(f impl.Find) bool { return f.Thing.Id == x.Thing })
		if x.Holder > impl.HdHouse && !hasServed(h, x) && (at < 0 || !impl.IsDue(h.Finds[at], x.At)) {
			return false
		}
	}
	return true
}

func wantBalanced(h impl.House) bool {
	sum := 0
	for _, x := range h.Book {
		switch {
		case x.To == 0:
			sum += x.Cents
		case x.From == 0:
			sum -= x.Cents
		}
	}
	return sum >= 0 || !impl.AreEntries(h.Book)
}

func TestTheSingleChecks(t *testing.T) {
	met := map[string]int{}
	for _, h := range oddHouses() {
		arg, unchanged := guardedHouse(h)
		for name, pair := range map[string][2]bool{
			"IsAccounted":  {impl.IsAccounted(arg), wantAccounted(h)},
			"AreOwners":    {impl.AreOwners(arg), wantOwners(h)},
			"IsNeverEarly": {impl.IsNeverEarly(arg), wantNeverEarly(h)},
			"IsBalanced":   {impl.IsBalanced(arg), wantBalanced(h)},
		} {
			checkValue(t, pair[0], pair[1], "%s(%+v)", name, h)
			if !pair[1] {
				met[name]++
			}
		}
		unchanged(t)
	}
	checkValue(t, len(met), 4, "the number of checks that were not held")
}

func TestFaultOf(t *testing.T) {
	for _, c := range auditedHouses() {
		arg, unchanged := guardedHouse(c.house)
		checkValue(t, impl.FaultOf(arg), c.fault, "FaultOf(%+v)", c.house)
		unchanged(t)
	}
}

func TestThingsThatAreSoldTooEarly(t *testing.T) {
	for _, kind := range []int{impl.KdBag, impl.KdMoney, impl.KdFood} {
		due := 24 * wantDays[kind]
		for _, holder := range []int{impl.HdOwner, impl.HdBuyer, impl.HdGone} {
			for at, isEarly := range map[int]bool{0: true, due - 1: true, due: false, due + 1: false, impl.MaxHour: false} {
				h := givenAway(holder, 7, at)
				h.Finds[0].Thing.Kind = kind
				checkValue(t, impl.IsNeverEarly(h), !isEarly, "IsNeverEarly of the kind %d with the holder %d at %d", kind, holder, at)
				want := ""
				if isEarly {
					want = "early"
				}
				checkValue(t, impl.FaultOf(h), want, "FaultOf the kind %d with the holder %d at %d", kind, holder, at)
			}
		}
	}
}

func TestOwnersOfWhatNobodyKnowsWhoFound(t *testing.T) {
	h := givenAway(impl.HdOwner, 0, 2160)
	checkValue(t, impl.AreOwners(h), false, "AreOwners of a known finder")
	h.Finds[0].Finder = 0
	checkValue(t, impl.AreOwners(h), true, "AreOwners of the Finder 0")
	h = givenAway(impl.HdOwner, 7, 2160)
	h.Finds[0].Finder = 0
	checkValue(t, impl.AreOwners(h), false, "AreOwners of somebody else than the Finder 0")
}

func TestAllPromisesHoldAtEveryMoment(t *testing.T) {
	var kinds [6]int
	for seed := range 40 {
		h := openHouse()
		for _, e := range history(seed) {
			h, _ = impl.ApplyEvent(h, e)
			checkValue(t, impl.FaultOf(h), "", "FaultOf(%+v)", h)
		}
		roll := dice(seed)
		h, _ = impl.NewHouse(1, []impl.Slot{slot(1, 4, 0), slot(2, 9, 0), slot(3, 9, 0), slot(4, 9, 0)})
		for range 150 {
			h, _ = anyStep(roll)(h)
			checkValue(t, impl.FaultOf(h), "", "FaultOf(%+v)", h)
		}
		for _, x := range h.Chain {
			kinds[x.Holder]++
		}
	}
	if kinds[impl.HdOwner] == 0 || kinds[impl.HdBuyer] == 0 || kinds[impl.HdGone] == 0 {
		t.Errorf("the things came to these holders only: %v", kinds)
	}
	checkValue(t, impl.FaultOf(impl.House{No: math.MinInt}), "house", "FaultOf")
}
