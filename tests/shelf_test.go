package tests

import (
	"math"
	"slices"
	"testing"

	"loop.example/g03007/impl"
)

func slot(id int, size int, thing int) impl.Slot {
	return impl.Slot{Id: id, Size: size, Thing: thing}
}

func sized(id int, size int) impl.Thing {
	return impl.Thing{Id: id, Kind: impl.KdBag, Colour: 1, Size: size}
}

var slotFields = []field[impl.Slot]{
	{1, 99, func(x *impl.Slot, n int) { x.Id = n }},
	{1, 50, func(x *impl.Slot, n int) { x.Size = n }},
	{0, 999, func(x *impl.Slot, n int) { x.Thing = n }},
}

// slotsFrom has empty slots of all sizes in turn.
func slotsFrom(id int, count int) []impl.Slot {
	var l []impl.Slot
	for i := range count {
		l = append(l, slot(id+i, 7*i%50+1, 0))
	}
	return l
}

func someSlots() [][]impl.Slot {
	return [][]impl.Slot{
		nil, {}, {slot(1, 1, 0)}, {slot(99, 50, 999)}, {slot(3, 10, 0)}, {slot(3, 10, 5)},
		{slot(1, 20, 0), slot(2, 5, 0), slot(3, 10, 0), slot(4, 10, 0)},
		{slot(1, 10, 0), slot(2, 10, 0), slot(3, 10, 0)},
		{slot(1, 10, 4), slot(2, 10, 0), slot(3, 10, 0)},
		{slot(5, 20, 0), slot(7, 5, 8), slot(30, 10, 7), slot(40, 11, 0), slot(99, 11, 0)},
		{slot(1, 4, 1), slot(2, 4, 2), slot(3, 4, 3)},
		slotsFrom(1, 30), slotsFrom(70, 30), slotsFrom(5, 29),
	}
}

func invalidSlots() [][]impl.Slot {
	l := [][]impl.Slot{
		{{}}, slotsFrom(1, 31), slotsFrom(1, 32), slotsFrom(0, 2), slotsFrom(99, 2),
		{slot(2, 5, 0), slot(1, 5, 0)}, {slot(2, 50, 0), slot(2, 50, 0)}, {slot(1, 5, 0), slot(3, 5, 0), slot(2, 5, 0)},
		{slot(1, 5, 3), slot(2, 5, 3)}, {slot(1, 5, 3), slot(2, 5, 4), slot(3, 5, 3)}, {slot(1, 5, 0), slot(2, 5, 4), slot(3, 50, 0), slot(4, 5, 4)},
	}
	for _, bad := range beyondLimits(slot(50, 20, 7), slotFields) {
		l = append(l, []impl.Slot{bad}, []impl.Slot{slot(1, 50, 0), bad}, []impl.Slot{bad, slot(99, 50, 0)})
	}
	return l
}

func TestAreSlots(t *testing.T) {
	for _, l := range someSlots() {
		arg, unchanged := guarded(l, slot(1, 5, 3))
		checkValue(t, impl.AreSlots(arg), true, "AreSlots(%v)", l)
		unchanged(t)
	}
	for _, x := range atLimits(slot(50, 20, 7), slotFields) {
		checkValue(t, impl.AreSlots([]impl.Slot{x}), true, "AreSlots(%v)", x)
	}
	for _, l := range invalidSlots() {
		checkValue(t, impl.AreSlots(l), false, "AreSlots(%v)", l)
	}
}

func TestSlotOf(t *testing.T) {
	l := []impl.Slot{slot(4, 5, 7), slot(2, 5, 0), slot(9, 5, 8), slot(3, 5, 7), slot(1, 5, 1000), slot(6, 5, -2)}
	for thing, want := range map[int]int{7: 4, 8: 9, 1000: 1, -2: 6, 0: 0, 1: 0, 9: 0, 999: 0, math.MaxInt: 0, math.MinInt: 0} {
		arg, unchanged := guarded(l, slot(88, 5, thing))
		checkValue(t, impl.SlotOf(arg, thing), want, "SlotOf(.., %d)", thing)
		unchanged(t)
	}
	checkValue(t, impl.SlotOf(nil, 5), 0, "SlotOf no slots")
	checkValue(t, impl.SlotOf(slotsFrom(1, 30), 0), 0, "SlotOf nothing")
}

var someSizes = []int{math.MinInt, -1, 0, 1, 2, 4, 5, 6, 8, 9, 10, 11, 12, 19, 20, 21, 42, 49, 50, 51, math.MaxInt}

// wantSmallest tries the sizes in ascending order; it returns an index, or -1.
func wantSmallest(l []impl.Slot, size int) int {
	for n := 0; n <= 60; n++ {
		for i, s := range l {
			if s.Thing == 0 && s.Size == n && n >= size {
				return i
			}
		}
	}
	return -1
}

func TestSmallestFree(t *testing.T) {
	for _, l := range someSlots() {
		for _, size := range someSizes {
			want := 0
			if i := wantSmallest(l, size); i >= 0 {
				want = l[i].Id
			}
			arg, unchanged := guarded(l, slot(88, 50, 0))
			checkValue(t, impl.SmallestFree(arg, size), want, "SmallestFree(%v, %d)", l, size)
			unchanged(t)
		}
	}
	// It need not be a valid list.
	l := []impl.Slot{slot(9, 60, 0), slot(4, 55, 0), slot(300, 51, 7), slot(4, 8, 0), slot(200, 8, 0)}
	checkValue(t, impl.SmallestFree(l, 51), 4, "SmallestFree of slots that are too large")
	checkValue(t, impl.SmallestFree(l[3:], 8), 4, "SmallestFree of slots of the same size")
	checkValue(t, impl.SmallestFree([]impl.Slot{l[4], l[3]}, 8), 200, "SmallestFree of slots of the same size")
}

func TestSlotsOfTheSameSize(t *testing.T) {
	l := slices.Clone(slotsFrom(10, 30))
	for i := range l {
		l[i].Size = 8
	}
	for i := range l {
		checkValue(t, impl.SmallestFree(l, 8), 10+i, "SmallestFree of slots of the same size")
		checkValue(t, impl.SmallestFree(l, 9), 0, "SmallestFree of slots that are too small")
		next, ok := impl.PutAway(l, sized(100+i, 3))
		checkValue(t, ok, true, "PutAway of the thing %d", 100+i)
		checkValue(t, impl.SlotOf(next, 100+i), 10+i, "SlotOf the thing %d", 100+i)
		l = next
	}
	_, ok := impl.PutAway(l, sized(200, 3))
	checkValue(t, ok, false, "PutAway without a free slot")
}

// checkPutAway also checks that the result is new memory.
func checkPutAway(t *testing.T, l []impl.Slot, x impl.Thing, want []impl.Slot, wantOk bool) {
	t.Helper()
	arg, unchanged := guarded(l, slot(88, 50, 0))
	got, ok := impl.PutAway(arg, x)
	checkList(t, got, want, "PutAway(%v, %+v)", l, x)
	checkValue(t, ok, wantOk, "PutAway(%v, %+v)", l, x)
	overwrite(got, impl.Slot{})
	unchanged(t)
}

func TestWhatIsPutAwayFitsAndIsFound(t *testing.T) {
	for _, l := range someSlots() {
		for size := 1; size <= 50; size++ {
			want := slices.Clone(l)
			at := wantSmallest(l, size)
			if at >= 0 {
				want[at].Thing = 100
			}
			checkPutAway(t, l, sized(100, size), want, at >= 0)
			got, ok := impl.PutAway(l, sized(100, size))
			if !ok {
				continue
			}
			id := impl.SlotOf(got, 100)
			checkValue(t, id, l[at].Id, "SlotOf in %v", got)
			if !impl.AreSlots(got) || got[at].Size < size || impl.FreeSlots(got) != impl.FreeSlots(l)-1 {
				t.Errorf("PutAway(%v, size %d) = %v", l, size, got)
			}
			back, ok := impl.TakeOut(got, 100)
			checkList(t, back, l, "TakeOut of what was put away")
			checkValue(t, ok, true, "TakeOut of what was put away")
		}
	}
}

func TestPutAwayRejects(t *testing.T) {
	l := []impl.Slot{slot(1, 20, 0), slot(2, 5, 7), slot(3, 50, 8), slot(4, 50, 0)}
	for _, id := range []int{7, 8} {
		for _, size := range []int{1, 5, 6, 50} {
			checkPutAway(t, l, sized(id, size), l, false)
		}
	}
	for _, x := range invalidThings() {
		checkPutAway(t, l, x, l, false)
	}
	for _, bad := range invalidSlots() {
		checkPutAway(t, bad, sized(100, 1), bad, false)
		checkPutAway(t, bad, sized(3, 1), bad, false)
	}
	checkPutAway(t, nil, sized(3, 1), nil, false)
}

// checkTakeOut also checks that the result is new memory.
func checkTakeOut(t *testing.T, l []impl.Slot, thing int, want []impl.Slot, wantOk bool) {
	t.Helper()
	arg, unchanged := guarded(l, slot(88, 50, thing))
	got, ok := impl.TakeOut(arg, thing)
	checkList(t, got, want, "TakeOut(%v, %d)", l, thing)
	checkValue(t, ok, wantOk, "TakeOut(%v, %d)", l, thing)
	overwrite(got, impl.Slot{})
	unchanged(t)
}

func TestTakeOut(t *testing.T) {
	for _, l := range someSlots() {
		for _, thing := range []int{math.MinInt, -1, 0, 1, 2, 3, 4, 5, 6, 7, 8, 999, 1000, math.MaxInt} {
			want := slices.Clone(l)
			at := slices.IndexFunc(l, func(s impl.Slot) bool { return s.Thing == thing })
			if thing == 0 {
				at = -1
			}
			if at >= 0 {
				want[at].Thing = 0
			}
			checkTakeOut(t, l, thing, want, at >= 0)
		}
	}
	for _, bad := range invalidSlots() {
		for _, s := range bad {
			checkTakeOut(t, bad, s.Thing, bad, false)
		}
	}
}

func TestFreeSlots(t *testing.T) {
	for i, want := range []int{0, 0, 1, 0, 1, 0, 4, 3, 2, 3, 0, 30, 30, 29} {
		l := someSlots()[i]
		arg, unchanged := guarded(l, slot(88, 50, 0))
		checkValue(t, impl.FreeSlots(arg), want, "FreeSlots(%v)", l)
		unchanged(t)
	}
	checkValue(t, impl.FreeSlots([]impl.Slot{{}, {Thing: -1}, {Thing: 1000}, {}}), 2, "FreeSlots of invalid slots")
}
