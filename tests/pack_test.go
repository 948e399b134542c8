package tests

import (
	"slices"
	"testing"

	"loop.example/g03007/impl"
)

// thingsOf has things with the Ids 2, 4, .. of these sizes.
func thingsOf(sizes ...int) []impl.Thing {
	var l []impl.Thing
	for i, size := range sizes {
		l = append(l, sized(2*i+2, size))
	}
	return l
}

func someLoads() [][]impl.Thing {
	return [][]impl.Thing{
		nil, {}, thingsOf(1), thingsOf(50), thingsOf(4), thingsOf(4, 9, 15, 5), thingsOf(15, 9, 5, 4), thingsOf(4, 4), thingsOf(10, 10, 10, 10), thingsOf(5, 20, 5, 20, 11), thingsOf(11, 10, 4, 4),
		thingsOf(1, 2, 3, 4, 5, 6, 7, 8, 9, 10, 11, 12, 13, 14, 15, 16, 17, 18, 19, 20), thingsOf(slices.Repeat([]int{36}, 20)...),
	}
}

func invalidLoads() [][]impl.Thing {
	l := [][]impl.Thing{thingsOf(slices.Repeat([]int{1}, 21)...), {sized(4, 1), sized(2, 1)}, {sized(4, 1), sized(4, 1)}, {{}}}
	for _, bad := range invalidThings() {
		l = append(l, []impl.Thing{bad}, []impl.Thing{sized(5, 4), bad})
	}
	return slices.DeleteFunc(l, impl.AreThings)
}

// wantPutAll looks for the largest thing again and again.
func wantPutAll(l []impl.Slot, things []impl.Thing) ([]impl.Slot, []int) {
	slots, left := slices.Clone(l), []int(nil)
	for size := 50; size >= 1; size-- {
		for _, x := range things {
			if x.Size != size {
				continue
			}
			at := wantSmallest(slots, size)
			isIn := slices.ContainsFunc(slots, func(s impl.Slot) bool { return s.Thing == x.Id })
			if isIn || at < 0 {
				left = append(left, x.Id)
			} else {
				slots[at].Thing = x.Id
			}
		}
	}
	slices.Sort(left)
	return slots, left
}

// checkPutAll also checks that the results are new memory.
func checkPutAll(t *testing.T, l []impl.Slot, things []impl.Thing, want []impl.Slot, wantLeft []int) {
	t.Helper()
	arg, unchanged := guarded(l, slot(88, 50, 0))
	load, sameLoad := guarded(things, sized(77, 1))
	got, left := impl.PutAll(arg, load)
	checkList(t, got, want, "PutAll(%v, %+v)", l, things)
	checkList(t, left, wantLeft, "what is left of PutAll(%v, %+v)", l, things)
	overwrite(got, impl.Slot{})
	overwrite(left, -1)
	unchanged(t)
	sameLoad(t)
}

func TestPutAll(t *testing.T) {
	for _, l := range someSlots() {
		for _, things := range someLoads() {
			want, left := wantPutAll(l, things)
			checkPutAll(t, l, things, want, left)
		}
	}
	l := []impl.Slot{slot(1, 20, 0), slot(2, 5, 0), slot(3, 10, 0)}
	checkPutAll(t, l, thingsOf(4, 9, 15, 5), []impl.Slot{slot(1, 20, 6), slot(2, 5, 8), slot(3, 10, 4)}, []int{2})
	// Of several of a size the one that is first in the list comes first.
	checkPutAll(t, l[1:2], thingsOf(4, 4), []impl.Slot{slot(2, 5, 2)}, []int{4})
}

func TestThingsThatAreInASlotAlready(t *testing.T) {
	l := []impl.Slot{slot(1, 20, 0), slot(2, 5, 4), slot(3, 10, 0)}
	things := thingsOf(4, 5, 15)
	checkPutAll(t, l, things, []impl.Slot{slot(1, 20, 6), slot(2, 5, 4), slot(3, 10, 2)}, []int{4})
	checkValue(t, impl.CanHold(l, things), false, "CanHold of a thing that is in a slot")
	checkValue(t, impl.CanHold(l, []impl.Thing{things[0], things[2]}), true, "CanHold of the others")
	checkValue(t, impl.Wasted(l, things), 0, "Wasted")
	checkList(t, impl.Tighten(l, things), l, "Tighten")
	full := []impl.Slot{slot(1, 20, 2), slot(2, 5, 4), slot(3, 10, 6)}
	checkPutAll(t, full, thingsOf(5, 1, 9), full, []int{2, 4, 6})
}

func TestCanHold(t *testing.T) {
	for _, l := range someSlots() {
		for _, things := range someLoads() {
			_, left := wantPutAll(l, things)
			arg, unchanged := guarded(l, slot(88, 50, 0))
			load, sameLoad := guarded(things, sized(77, 1))
			checkValue(t, impl.CanHold(arg, load), len(left) == 0, "CanHold(%v, %+v)", l, things)
			unchanged(t)
			sameLoad(t)
		}
	}
}

func TestPackingRejects(t *testing.T) {
	check := func(l []impl.Slot, things []impl.Thing) {
		t.Helper()
		checkPutAll(t, l, things, l, nil)
		checkValue(t, impl.CanHold(l, things), false, "CanHold(%v, %+v)", l, things)
		checkValue(t, impl.Wasted(l, things), 0, "Wasted(%v, %+v)", l, things)
		checkTighten(t, l, things, l)
	}
	for _, bad := range invalidSlots() {
		check(bad, thingsOf(1, 1, 1, 1))
		check(bad, thingsOf(1))
		check(bad, nil)
	}
	loose := []impl.Slot{slot(1, 50, 4), slot(2, 50, 5), slot(3, 20, 0), slot(4, 20, 0)}
	for _, bad := range invalidLoads() {
		check(loose, bad)
	}
}

func TestWasted(t *testing.T) {
	for _, l := range someSlots() {
		for _, things := range someLoads() {
			want := 0
			for _, s := range l {
				for _, x := range things {
					if s.Thing == x.Id {
						want += s.Size - x.Size
					}
				}
			}
			checkValue(t, impl.Wasted(l, things), want, "Wasted(%v, %+v)", l, things)
		}
	}
	l := []impl.Slot{slot(1, 20, 6), slot(2, 5, 8), slot(3, 10, 4), slot(4, 50, 99), slot(5, 50, 0)}
	checkValue(t, impl.Wasted(l, thingsOf(4, 9, 15, 5)), 6, "Wasted")
	checkValue(t, impl.Wasted(l, nil), 0, "Wasted without things")
	checkValue(t, impl.Wasted(l, thingsOf(4, 9, 15, 7)), 4, "Wasted with a slot that is too small")
}

// checkTighten also checks that the result is new memory.
func checkTighten(t *testing.T, l []impl.Slot, things []impl.Thing, want []impl.Slot) {
	t.Helper()
	arg, unchanged := guarded(l, slot(88, 50, 0))
	load, sameLoad := guarded(things, sized(77, 1))
	got := impl.Tighten(arg, load)
	checkList(t, got, want, "Tighten(%v, %+v)", l, things)
	overwrite(got, impl.Slot{})
	unchanged(t)
	sameLoad(t)
}

// looseSlots has slots with some of the things 2, 4, .. in other slots than the smallest.
func looseSlots() [][]impl.Slot {
	return append(someSlots(),
		[]impl.Slot{slot(1, 20, 2), slot(2, 5, 0), slot(3, 10, 99)},
		[]impl.Slot{slot(1, 50, 2), slot(2, 40, 4), slot(3, 30, 6), slot(4, 20, 8), slot(5, 15, 0), slot(6, 10, 0), slot(7, 5, 0), slot(8, 4, 0)},
		[]impl.Slot{slot(1, 15, 8), slot(2, 15, 6), slot(3, 20, 4), slot(4, 20, 2)},
		[]impl.Slot{slot(1, 5, 6)}, []impl.Slot{slot(1, 5, 6), slot(2, 50, 4)}, []impl.Slot{slot(1, 50, 2), slot(2, 1, 4), slot(3, 9, 6)},
	)
}

func TestTighteningLosesNothing(t *testing.T) {
	for _, l := range looseSlots() {
		for _, things := range someLoads() {
			emptied, taken := slices.Clone(l), []impl.Thing(nil)
			for _, x := range things {
				for i := range emptied {
					if emptied[i].Thing == x.Id {
						emptied[i].Thing = 0
						taken = append(taken, x)
					}
				}
			}
			want, left := wantPutAll(emptied, taken)
			if len(left) > 0 {
				want = l
			}
			checkTighten(t, l, things, want)

			got := impl.Tighten(l, things)
			for _, s := range l {
				if s.Thing != 0 && impl.SlotOf(got, s.Thing) == 0 {
					t.Errorf("Tighten(%v, %+v) = %v lost %d", l, things, got, s.Thing)
				}
			}
			checkValue(t, impl.FreeSlots(got), impl.FreeSlots(l), "FreeSlots of Tighten(%v, %+v)", l, things)
		}
	}
}

func TestTightenExamples(t *testing.T) {
	things := thingsOf(4, 9, 15, 5)
	loose := []impl.Slot{slot(1, 20, 2), slot(2, 5, 0), slot(3, 10, 99)}
	checkTighten(t, loose, things, []impl.Slot{slot(1, 20, 0), slot(2, 5, 2), slot(3, 10, 99)})
	// The slot of the thing 6 is too small for it.
	small := []impl.Slot{slot(1, 20, 2), slot(2, 5, 6), slot(3, 4, 0)}
	checkTighten(t, small, things, []impl.Slot{slot(1, 20, 6), slot(2, 5, 0), slot(3, 4, 2)})
	checkTighten(t, small[1:], things, small[1:])
	checkTighten(t, loose, nil, loose)
}

func TestLargestFree(t *testing.T) {
	for i, want := range []int{0, 0, 1, 0, 10, 0, 20, 10, 10, 20, 0, 50, 50, 50} {
		l := someSlots()[i]
		arg, unchanged := guarded(l, slot(88, 77, 0))
		checkValue(t, impl.LargestFree(arg), want, "LargestFree(%v)", l)
		unchanged(t)
	}
	checkValue(t, impl.LargestFree([]impl.Slot{slot(1, -5, 0), slot(2, -3, 0)}), 0, "LargestFree of invalid slots")
	checkValue(t, impl.LargestFree([]impl.Slot{slot(1, 70, 0), slot(1, 99, 5), slot(1, 60, 0)}), 70, "LargestFree of invalid slots")
}
