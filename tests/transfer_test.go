package tests

import (
	"math"
	"slices"
	"testing"

	"loop.example/g03007/impl"
)

func parcel(from int, to int, at int, things ...int) impl.Parcel {
	return impl.Parcel{From: from, To: to, Things: things, At: at}
}

var parcelFields = []field[impl.Parcel]{
	{1, 9, func(x *impl.Parcel, n int) { x.From = n }},
	{1, 9, func(x *impl.Parcel, n int) { x.To = n }},
	{0, 100000, func(x *impl.Parcel, n int) { x.At = n }},
	{1, 999, func(x *impl.Parcel, n int) { x.Things = []int{n} }},
}

func invalidParcels() []impl.Parcel {
	l := append(beyondLimits(parcel(4, 5, 20, 2, 4), parcelFields), impl.Parcel{})
	for no := 1; no <= 9; no++ {
		l = append(l, parcel(no, no, 20, 2))
	}
	for _, things := range [][]int{nil, {}, {4, 2}, {2, 2}, {1, 3, 2}, {2, 4, 4}, {0, 2}, {2, 1000}, {1, 2, 3, 4, 5, 6, 7, 8, 9, 10, 11}, {-1, 2}} {
		l = append(l, parcel(4, 5, 20, things...))
	}
	return l
}

// storedThings has things in the houses 1 and 2, one that is with its finder, and some that are gone.
func storedThings() []impl.Hand {
	return sealed(
		hand(2, impl.HdHouse, 1, 5), hand(4, impl.HdHouse, 1, 6), hand(6, impl.HdHouse, 2, 7), hand(8, impl.HdFinder, 1, 8),
		hand(10, impl.HdHouse, 1, 9), hand(12, impl.HdHouse, 1, 9), hand(14, impl.HdHouse, 1, 9), hand(10, impl.HdGone, 0, 10),
		hand(12, impl.HdOwner, 1, 10), hand(14, impl.HdBuyer, 1, 10), hand(16, impl.HdHouse, 1, 10), hand(999, impl.HdHouse, 1, 10),
	)
}

func TestIsParcel(t *testing.T) {
	for from := -50; from <= 300; from++ {
		for to := -1; to <= 11; to++ {
			want := from >= 1 && from <= 9 && to >= 1 && to <= 9 && from != to
			checkValue(t, impl.IsParcel(parcel(from, to, 20, 2)), want, "IsParcel from %d to %d", from, to)
		}
	}
	for _, x := range []impl.Parcel{
		parcel(4, 5, 0, 1), parcel(4, 5, impl.MaxHour, 999), parcel(4, 5, 20, 1, 999), parcel(4, 5, 20, 1, 2, 3, 4, 5, 6, 7, 8, 9), parcel(4, 5, 20, 1, 2, 3, 4, 5, 6, 7, 8, 998, 999),
	} {
		things, unchanged := guarded(x.Things, 7)
		x.Things = things
		checkValue(t, impl.IsParcel(x), true, "IsParcel(%+v)", x)
		unchanged(t)
	}
	for _, x := range invalidParcels() {
		checkValue(t, impl.IsParcel(x), false, "IsParcel(%+v)", x)
	}
}

// checkSendParcel also checks that the result is new memory.
func checkSendParcel(t *testing.T, l []impl.Hand, x impl.Parcel, want []impl.Hand, wantOk bool) {
	t.Helper()
	arg, unchanged := guarded(l, hand(1, 1, 1, 1))
	things, sameThings := guarded(x.Things, 16)
	got, ok := impl.SendParcel(arg, impl.Parcel{From: x.From, To: x.To, Things: things, At: x.At})
	checkList(t, got, want, "SendParcel(%v, %+v)", l, x)
	checkValue(t, ok, wantOk, "SendParcel(%v, %+v)", l, x)
	overwrite(got, impl.Hand{})
	unchanged(t)
	sameThings(t)
}

// sentOn has the hands of a parcel behind those of a chain.
func sentOn(l []impl.Hand, x impl.Parcel) []impl.Hand {
	longer := slices.Clone(l)
	for _, thing := range x.Things {
		longer = append(longer, hand(thing, impl.HdHouse, x.To, x.At))
	}
	return sealed(longer...)
}

func TestAParcelMovesAllOfItsThings(t *testing.T) {
	l := storedThings()
	for _, x := range []impl.Parcel{
		parcel(1, 3, 10, 2), parcel(1, 3, 20, 2, 4), parcel(1, 9, impl.MaxHour, 2, 4, 16, 999), parcel(2, 1, 11, 6), parcel(1, 2, 11, 4, 999),
	} {
		checkSendParcel(t, l, x, sentOn(l, x), true)
		got, _ := impl.SendParcel(l, x)
		for _, thing := range x.Things {
			holder, who := impl.HolderAt(got, thing, x.At)
			checkValue(t, [2]int{holder, who}, [2]int{impl.HdHouse, x.To}, "HolderAt of the thing %d", thing)
		}
		checkValue(t, impl.CountIn(got), impl.CountIn(l), "CountIn after %+v", x)
	}
	var ten []impl.Hand
	for i := range 10 {
		ten = append(ten, hand(i+1, impl.HdHouse, 1, 5))
	}
	x := parcel(1, 2, 5, 1, 2, 3, 4, 5, 6, 7, 8, 9, 10)
	checkSendParcel(t, sealed(ten...), x, sentOn(ten, x), true)
}

func TestAParcelMovesAllOfItsThingsOrNone(t *testing.T) {
	l := storedThings()
	for _, x := range []impl.Parcel{
		// One of the things is in another house, with its finder, or in no house.
		parcel(1, 3, 20, 2, 6), parcel(1, 3, 20, 2, 8), parcel(1, 3, 20, 2, 4, 5), parcel(1, 3, 20, 1, 2), parcel(2, 3, 20, 2), parcel(2, 3, 20, 2, 6), parcel(3, 1, 20, 2),
		// The hours would descend.
		parcel(1, 3, 9, 2), parcel(1, 3, 0, 2, 4), parcel(2, 3, 9, 6),
	} {
		checkSendParcel(t, l, x, l, false)
	}
	for _, x := range invalidParcels() {
		checkSendParcel(t, l, x, l, false)
		checkSendParcel(t, nil, x, nil, false)
	}
	checkSendParcel(t, nil, parcel(1, 3, 20, 2), nil, false)
	for _, bad := range invalidChains() {
		for _, x := range bad {
			checkSendParcel(t, bad, parcel(1, 2, impl.MaxHour, x.Thing), bad, false)
		}
	}
}

func TestParcelsOfThingsThatAreGone(t *testing.T) {
	l := storedThings()
	for _, gone := range []int{10, 12, 14} {
		checkSendParcel(t, l, parcel(1, 3, 20, gone), l, false)
		checkSendParcel(t, l, parcel(1, 3, 20, 2, gone), l, false)
		checkSendParcel(t, l, parcel(1, 3, 20, gone, 16), l, false)
		// It was there before it was gone.
		before := l[:7]
		checkSendParcel(t, before, parcel(1, 3, 20, 2, gone), sentOn(before, parcel(1, 3, 20, 2, gone)), true)
	}
}

func TestAParcelThatFindsNoRoomInTheChain(t *testing.T) {
	var l []impl.Hand
	for i := range 98 {
		l = append(l, hand(i%3+1, impl.HdHouse, 1, 7))
	}
	l = sealed(l...)
	checkSendParcel(t, l, parcel(1, 2, 7, 1, 2), sentOn(l, parcel(1, 2, 7, 1, 2)), true)
	// Two of the three hands would have room.
	checkSendParcel(t, l, parcel(1, 2, 7, 1, 2, 3), l, false)
}

func TestSendAll(t *testing.T) {
	l := storedThings()
	for _, c := range []struct {
		parcels []impl.Parcel
		sent    []int
	}{
		{nil, nil},
		{[]impl.Parcel{parcel(1, 3, 20, 2), parcel(1, 3, 21, 2), parcel(3, 2, 22, 2)}, []int{0, 2}},
		{[]impl.Parcel{parcel(1, 3, 20, 2, 4), parcel(3, 1, 20, 2), parcel(3, 2, 20, 4), parcel(2, 5, 30, 4, 6)}, []int{0, 1, 2, 3}},
		{[]impl.Parcel{parcel(1, 3, 20, 2, 10), parcel(1, 3, 30, 2), parcel(1, 4, 29, 4), {}}, []int{1}},
		{[]impl.Parcel{parcel(1, 3, 20, 10), parcel(4, 3, 30, 2)}, nil},
	} {
		want := l
		for _, i := range c.sent {
			want = sentOn(want, c.parcels[i])
		}
		arg, unchanged := guarded(l, hand(1, 1, 1, 1))
		got, count := impl.SendAll(arg, c.parcels)
		checkList(t, got, want, "SendAll(.., %+v)", c.parcels)
		checkValue(t, count, len(c.sent), "the count of SendAll(.., %+v)", c.parcels)
		overwrite(got, impl.Hand{})
		unchanged(t)
	}
	for _, bad := range invalidChains() {
		arg, unchanged := guarded(bad, hand(1, 1, 1, 1))
		got, count := impl.SendAll(arg, []impl.Parcel{parcel(1, 3, impl.MaxHour, 2)})
		checkList(t, got, bad, "SendAll(%v, ..)", bad)
		checkValue(t, count, 0, "the count of SendAll(%v, ..)", bad)
		overwrite(got, impl.Hand{})
		unchanged(t)
	}
}

func TestHousesOf(t *testing.T) {
	for _, l := range append(invalidChains(), nil, storedThings(), someChain(), sentOn(storedThings(), parcel(1, 3, 20, 2))) {
		for _, thing := range []int{math.MinInt, -1, 0, 2, 4, 8, 9, 10, 999, math.MaxInt} {
			var want []int
			for _, x := range l {
				if x.Thing == thing && x.Holder == impl.HdHouse {
					want = append(want, x.Who)
				}
			}
			arg, unchanged := guarded(l, hand(thing, impl.HdHouse, 8, 5))
			checkList(t, impl.HousesOf(arg, thing), want, "HousesOf(%v, %d)", l, thing)
			unchanged(t)
		}
	}
	sent, _ := impl.SendAll(storedThings(), []impl.Parcel{parcel(1, 3, 20, 2), parcel(3, 2, 22, 2), parcel(2, 1, 22, 2)})
	checkList(t, impl.HousesOf(sent, 2), []int{1, 3, 2, 1}, "HousesOf")
}

func TestCountIn(t *testing.T) {
	for count := range len(storedThings()) + 1 {
		l := storedThings()[:count]
		want := 0
		for thing := range 1000 {
			if holder, _ := wantHolder(l, thing, impl.MaxHour); holder == impl.HdHouse {
				want++
			}
		}
		arg, unchanged := guarded(l, hand(77, impl.HdHouse, 1, 50))
		checkValue(t, impl.CountIn(arg), want, "CountIn(%v)", l)
		unchanged(t)
	}
	checkValue(t, impl.CountIn(storedThings()), 5, "CountIn")
	for _, bad := range invalidChains() {
		checkValue(t, impl.CountIn(bad), 0, "CountIn(%v)", bad)
	}
}
