package tests

import (
	"slices"
	"testing"

	"loop.example/g03007/impl"
)

// houseWith has these finds in its slots.
func houseWith(no int, finds ...impl.Find) impl.House {
	h := impl.House{No: no, Now: impl.MaxHour}
	for i, f := range finds {
		h.Finds = append(h.Finds, f)
		h.Secrets = append(h.Secrets, secret(f.Thing.Id, 0, mark(1, 1)))
		h.Slots = append(h.Slots, slot(i+1, 50, f.Thing.Id))
		h.Chain = append(h.Chain, hand(f.Thing.Id, impl.HdHouse, no, impl.MaxHour))
	}
	h.Chain = sealed(h.Chain...)
	return h
}

func coatOf(id int, place int, at int) impl.Find {
	f := findOf(id, place, at)
	f.Thing.Kind = impl.KdCoat
	return f
}

// neighbours are houses, two of which have the same number; one has a thing that is gone.
func neighbours() []impl.House {
	gone := houseWith(5, findOf(2, 5, 40), findOf(7, 1, 50), coatOf(8, 5, 40))
	gone.Slots[0].Thing = 0
	gone.Chain = sealed(append(gone.Chain, hand(2, impl.HdGone, 0, impl.MaxHour))...)
	return []impl.House{
		houseWith(1, findOf(2, 5, 40), findOf(4, 9, 40), coatOf(6, 5, 40)), houseWith(3, coatOf(2, 5, 40)), houseWith(4, findOf(8, 1, 50), findOf(9, 1, 10)),
		emptyHouse(), gone, houseWith(1, findOf(2, 5, 40), findOf(3, 1, 20)), houseWith(9, findOf(999, 5, impl.MaxHour)),
	}
}

func shownFinds(h impl.House) []impl.Find {
	var l []impl.Find
	for _, f := range h.Finds {
		if slices.ContainsFunc(h.Slots, func(s impl.Slot) bool { return s.Thing == f.Thing.Id && s.Thing != 0 }) {
			l = append(l, f)
		}
	}
	return l
}

// wantHits asks all houses, or only those whose hints allow the thing.
func wantHits(r impl.Report, houses []impl.House, isAsked func(h impl.House) bool) []impl.Hit {
	var l []impl.Hit
	for _, h := range houses {
		for _, f := range shownFinds(h) {
			if isAsked(h) && impl.CanBe(r, f) {
				l = append(l, impl.Hit{House: h.No, Thing: f.Thing.Id})
			}
		}
	}
	return l
}

func togetherReports() []impl.Report {
	far, coat, late, large := bagReport(7), vagueReport(3), bagReport(9), vagueReport(8)
	far.Places = []int{22}
	coat.Kind = impl.KdCoat
	late.Span = span(41, 60)
	large.SizeLow = 10
	return append(hintReports(), bagReport(7), vagueReport(3), far, coat, late, large, impl.Report{})
}

func TestHouseHints(t *testing.T) {
	for _, h := range append(append(neighbours(), someHouses()...), invalidHouses()...) {
		for _, salt := range []int{0, 5, -7} {
			arg, unchanged := guardedHouse(h)
			checkList(t, impl.HouseHints(arg, salt), impl.HintsOf(shownFinds(h), salt), "HouseHints(%+v, %d)", h, salt)
			unchanged(t)
		}
	}
	checkList(t, impl.HouseHints(neighbours()[4], 5), impl.HintsOf([]impl.Find{findOf(7, 1, 50), coatOf(8, 5, 40)}, 5), "HouseHints without what is gone")
	checkList(t, impl.HouseHints(impl.House{}, 5), nil, "HouseHints of the zero House")
}

func TestHitsAndAskedHouses(t *testing.T) {
	houses := append(append(neighbours(), someHouses()...), invalidHouses()...)
	for _, r := range togetherReports() {
		for _, salt := range []int{0, 5, -7} {
			isAsked := func(h impl.House) bool { return impl.MayHave(r, impl.HintsOf(shownFinds(h), salt), salt) }
			var asked []int
			for _, h := range houses {
				if isAsked(h) {
					asked = append(asked, h.No)
				}
			}
			checkList(t, impl.AskedHouses(r, houses, salt), asked, "AskedHouses(%+v, .., %d)", r, salt)
			checkList(t, impl.HitsFor(r, houses, salt), wantHits(r, houses, isAsked), "HitsFor(%+v, .., %d)", r, salt)
		}
		checkList(t, impl.AllHits(r, houses), wantHits(r, houses, func(h impl.House) bool { return true }), "AllHits(%+v, ..)", r)
	}
}

func TestTogetherChangesNothing(t *testing.T) {
	var houses []impl.House
	var checks []func(t *testing.T)
	for _, h := range append(neighbours(), fullHouse()) {
		arg, unchanged := guardedHouse(h)
		houses, checks = append(houses, arg), append(checks, unchanged)
	}
	r, sameReport := guardedReport(bagReport(7))
	overwrite(impl.HitsFor(r, houses, 5), impl.Hit{})
	overwrite(impl.AllHits(r, houses), impl.Hit{})
	overwrite(impl.AskedHouses(r, houses, 5), -1)
	overwrite(impl.HouseHints(houses[0], 5), -1)
	for _, check := range append(checks, sameReport) {
		check(t)
	}
}

func TestAskingByHintsFindsEverything(t *testing.T) {
	houses := slices.Concat(neighbours(), someHouses())
	total := 0
	for _, r := range togetherReports() {
		for _, salt := range []int{0, 1, 5, -7, 1000000} {
			hits := impl.HitsFor(r, houses, salt)
			total += len(hits)
			checkList(t, hits, impl.AllHits(r, houses), "HitsFor(%+v, .., %d)", r, salt)
			checkValue(t, impl.EqualHits(hits, impl.AllHits(r, houses)), true, "EqualHits of HitsFor(%+v, .., %d) and AllHits", r, salt)
		}
	}
	for _, f := range findsToRemember() {
		for _, d := range someDoubts() {
			r, _ := impl.Remember(f, d, 8)
			house := houseWith(6, f)
			checkList(t, impl.HitsFor(r, []impl.House{house}, 5), []impl.Hit{{House: 6, Thing: f.Thing.Id}}, "HitsFor(%+v, the house of %+v, 5)", r, f)
		}
	}
	if total == 0 {
		t.Error("there are no hits")
	}
}

func TestHousesWithTheSameNumber(t *testing.T) {
	houses := neighbours()
	r := bagReport(7)
	want := []impl.Hit{{House: 1, Thing: 2}, {House: 4, Thing: 8}, {House: 5, Thing: 7}, {House: 1, Thing: 2}, {House: 1, Thing: 3}, {House: 9, Thing: 999}}
	checkList(t, impl.HitsFor(r, houses, 5), want, "HitsFor")
	checkList(t, impl.AllHits(r, houses), want, "AllHits")
	checkList(t, impl.AskedHouses(r, houses, 5), []int{1, 4, 5, 1, 9}, "AskedHouses")
	same := []impl.House{houses[0], houses[0], houses[1], houses[0]}
	checkList(t, impl.HitsFor(r, same, 5), slices.Repeat(want[:1], 3), "HitsFor of the same house")
	checkList(t, impl.AskedHouses(r, same, 5), []int{1, 1, 1}, "AskedHouses of the same house")
}

func TestHousesThatAreAskedForNothing(t *testing.T) {
	// The hints do not tell the place.
	far := bagReport(7)
	far.Places = []int{22}
	checkList(t, impl.HitsFor(far, neighbours(), 5), nil, "HitsFor at another place")
	checkList(t, impl.AskedHouses(far, neighbours(), 5), []int{1, 4, 5, 1, 9}, "AskedHouses at another place")
	for _, r := range invalidReports() {
		checkList(t, impl.HitsFor(r, neighbours(), 5), nil, "HitsFor(%+v, ..)", r)
		checkList(t, impl.AllHits(r, neighbours()), nil, "AllHits(%+v, ..)", r)
		checkList(t, impl.AskedHouses(r, neighbours(), 5), nil, "AskedHouses(%+v, ..)", r)
	}
	checkList(t, impl.HitsFor(bagReport(7), nil, 5), nil, "HitsFor no houses")
	checkList(t, impl.AllHits(bagReport(7), nil), nil, "AllHits of no houses")
	checkList(t, impl.AskedHouses(bagReport(7), nil, 5), nil, "AskedHouses of no houses")
}

func TestHousesWithFindsInAnotherOrder(t *testing.T) {
	// Finds in another order have no hints, but can be what was lost.
	odd := impl.House{No: 77, Finds: []impl.Find{findOf(4, 5, 40), findOf(2, 5, 40)}, Slots: []impl.Slot{slot(1, 5, 2), slot(2, 5, 4)}}
	checkList(t, impl.HouseHints(odd, 5), nil, "HouseHints")
	checkList(t, impl.HitsFor(bagReport(7), []impl.House{odd}, 5), nil, "HitsFor")
	checkList(t, impl.AllHits(bagReport(7), []impl.House{odd}), []impl.Hit{{House: 77, Thing: 4}, {House: 77, Thing: 2}}, "AllHits")
	// What is not shown does not count.
	odd.Slots[1].Thing = 0
	checkList(t, impl.HitsFor(bagReport(7), []impl.House{odd}, 5), []impl.Hit{{House: 77, Thing: 2}}, "HitsFor")
}

func TestEqualHits(t *testing.T) {
	lists := [][]impl.Hit{nil, {}, {{}}, {{House: 1, Thing: 2}}, {{House: 1, Thing: 3}}, {{House: 2, Thing: 2}}, {{House: 1, Thing: 2}, {House: 1, Thing: 3}}, {{House: 1, Thing: 3}, {House: 1, Thing: 2}}, {{House: 1, Thing: 2}, {House: 1, Thing: 2}}}
	for _, a := range lists {
		for _, b := range lists {
			argA, sameA := guarded(a, impl.Hit{House: 1, Thing: 3})
			argB, sameB := guarded(b, impl.Hit{House: 1, Thing: 3})
			checkValue(t, impl.EqualHits(argA, argB), slices.Equal(a, b), "EqualHits(%v, %v)", a, b)
			sameA(t)
			sameB(t)
		}
	}
}
