package tests

import (
	"math"
	"slices"
	"testing"

	"loop.example/g03007/impl"
)

func inner(outer int, thing int) impl.Inner {
	return impl.Inner{Outer: outer, Thing: thing}
}

var innerFields = []field[impl.Inner]{
	{1, 999, func(x *impl.Inner, n int) { x.Outer = n }},
	{1, 999, func(x *impl.Inner, n int) { x.Thing = n }},
}

// nested has bags in bags, the innermost one first or last.
func nested(count int) []impl.Inner {
	var l []impl.Inner
	for i := range count {
		l = append(l, inner(i+1, i+2))
	}
	return l
}

func someInners() [][]impl.Inner {
	l := [][]impl.Inner{
		nil, {}, {inner(1, 2)}, {inner(999, 1)}, {inner(1, 999)}, {inner(1, 2), inner(2, 3), inner(1, 4), inner(7, 8)},
		{inner(2, 3), inner(7, 8), inner(1, 4), inner(1, 2), inner(3, 7)}, {inner(5, 1), inner(5, 9), inner(5, 3), inner(5, 7)}, nested(19), nested(20),
	}
	reversed := nested(20)
	slices.Reverse(reversed)
	var wide []impl.Inner
	for i := range 20 {
		wide = append(wide, inner(500, 30-i))
	}
	return append(l, reversed, wide)
}

func invalidInners() [][]impl.Inner {
	ring := nested(19)
	l := [][]impl.Inner{
		{{}}, make([]impl.Inner, 21), nested(21), nested(22), append(ring, inner(20, 1)), append([]impl.Inner{inner(20, 1)}, ring...),
		// A thing is in itself.
		{inner(5, 5)}, {inner(1, 2), inner(2, 1)}, {inner(1, 2), inner(2, 3), inner(3, 1)}, {inner(7, 9), inner(3, 1), inner(2, 3), inner(1, 2)}, {inner(1, 2), inner(2, 1), inner(1, 9)},
		{inner(1, 9), inner(1, 2), inner(2, 1)}, {inner(9, 10), inner(10, 11), inner(1, 9), inner(11, 1)},
		// A thing is in two.
		{inner(1, 2), inner(3, 2)}, {inner(1, 2), inner(1, 2)}, {inner(1, 2), inner(5, 6), inner(2, 7), inner(5, 7)},
	}
	for _, bad := range beyondLimits(inner(50, 60), innerFields) {
		l = append(l, []impl.Inner{bad}, []impl.Inner{inner(1, 2), bad}, []impl.Inner{bad, inner(1, 2)})
	}
	return l
}

func TestAreInners(t *testing.T) {
	for _, l := range someInners() {
		arg, unchanged := guarded(l, inner(2, 2))
		checkValue(t, impl.AreInners(arg), true, "AreInners(%v)", l)
		unchanged(t)
	}
	for _, x := range atLimits(inner(50, 60), innerFields) {
		checkValue(t, impl.AreInners([]impl.Inner{x}), true, "AreInners(%v)", x)
	}
	for _, l := range invalidInners() {
		checkValue(t, impl.AreInners(l), false, "AreInners(%v)", l)
	}
}

// wantOuter returns 0 if a thing is in no other one.
func wantOuter(l []impl.Inner, thing int) int {
	for _, x := range l {
		if x.Thing == thing {
			return x.Outer
		}
	}
	return 0
}

// hasThing follows a thing outward for as many steps as there are inners.
func hasThing(l []impl.Inner, outer int, thing int) bool {
	for range l {
		thing = wantOuter(l, thing)
		if thing == outer && outer != 0 {
			return true
		}
	}
	return false
}

func TestNoThingIsInItself(t *testing.T) {
	// All ways to put each of three things into one of them or a fourth one, or into nothing.
	for n := range 5 * 5 * 5 {
		var l []impl.Inner
		for i, outer := range []int{n % 5, n / 5 % 5, n / 25} {
			if outer > 0 {
				l = append(l, inner(outer, i+1))
			}
		}
		want := true
		for thing := 1; thing <= 4; thing++ {
			want = want && !hasThing(l, thing, thing)
		}
		checkValue(t, impl.AreInners(l), want, "AreInners(%v)", l)
	}
	// Whatever is put in, no thing comes to be in itself.
	var l []impl.Inner
	for i := range 900 {
		next, ok := impl.PutIn(l, i%29+1, i*i%31+1)
		if !impl.AreInners(next) || ok != (len(next) == len(l)+1) {
			t.Errorf("PutIn(%v, ..) = %v, %v", l, next, ok)
		}
		for thing := 1; thing <= 31; thing++ {
			if hasThing(next, thing, thing) {
				t.Errorf("the thing %d is in itself: %v", thing, next)
			}
		}
		l = next
	}
	if len(l) < 15 {
		t.Errorf("only %v were put in", l)
	}
}

var someThingIds = []int{math.MinInt, -1, 0, 1, 2, 3, 4, 5, 7, 8, 9, 19, 20, 21, 22, 30, 500, 999, 1000, math.MaxInt}

func TestOuterOf(t *testing.T) {
	for _, l := range append(append(someInners(), invalidInners()...), []impl.Inner{inner(4, 2), inner(-7, 0), inner(5, 2)}) {
		for _, thing := range someThingIds {
			arg, unchanged := guarded(l, inner(77, thing))
			checkValue(t, impl.OuterOf(arg, thing), wantOuter(l, thing), "OuterOf(%v, %d)", l, thing)
			unchanged(t)
		}
	}
}

func TestTopOfAndAllIn(t *testing.T) {
	for _, l := range someInners() {
		for _, thing := range someThingIds {
			top := thing
			for wantOuter(l, top) != 0 {
				top = wantOuter(l, top)
			}
			var all []int
			for id := range 1000 {
				if hasThing(l, thing, id) {
					all = append(all, id)
				}
			}
			arg, unchanged := guarded(l, inner(thing, 77))
			checkValue(t, impl.TopOf(arg, thing), top, "TopOf(%v, %d)", l, thing)
			checkList(t, impl.AllIn(arg, thing), all, "AllIn(%v, %d)", l, thing)
			unchanged(t)
		}
	}
	for _, l := range invalidInners() {
		for _, thing := range someThingIds {
			checkValue(t, impl.TopOf(l, thing), 0, "TopOf(%v, %d)", l, thing)
			checkList(t, impl.AllIn(l, thing), nil, "AllIn(%v, %d)", l, thing)
		}
	}
}

func TestBagsInBags(t *testing.T) {
	l := nested(20)
	for thing := 1; thing <= 21; thing++ {
		var all []int
		for id := thing + 1; id <= 21; id++ {
			all = append(all, id)
		}
		checkValue(t, impl.TopOf(l, thing), 1, "TopOf the thing %d", thing)
		checkList(t, impl.AllIn(l, thing), all, "AllIn the thing %d", thing)
	}
	apart, ok := impl.TakeFrom(l, 11)
	checkValue(t, ok, true, "TakeFrom")
	checkValue(t, impl.TopOf(apart, 21), 11, "TopOf when a bag was taken out")
	checkList(t, impl.AllIn(apart, 1), []int{2, 3, 4, 5, 6, 7, 8, 9, 10}, "AllIn when a bag was taken out")
	back, ok := impl.PutIn(apart, 5, 11)
	checkValue(t, ok, true, "PutIn")
	checkValue(t, len(impl.AllIn(back, 5)), 16, "the number of AllIn when a bag was put elsewhere")
	_, ok = impl.PutIn(apart, 15, 11)
	checkValue(t, ok, false, "PutIn of a bag into what is in it")
}

// checkPutIn also checks that the result is new memory.
func checkPutIn(t *testing.T, l []impl.Inner, x impl.Inner, wantOk bool) {
	t.Helper()
	want := slices.Clone(l)
	if wantOk {
		want = append(want, x)
	}
	arg, unchanged := guarded(l, inner(1, 1))
	got, ok := impl.PutIn(arg, x.Outer, x.Thing)
	checkList(t, got, want, "PutIn(%v, %v)", l, x)
	checkValue(t, ok, wantOk, "PutIn(%v, %v)", l, x)
	overwrite(got, impl.Inner{})
	unchanged(t)
}

func TestPutIn(t *testing.T) {
	l := []impl.Inner{inner(1, 2), inner(2, 3), inner(1, 4), inner(7, 8)}
	for outer := -1; outer <= 10; outer++ {
		for thing := -1; thing <= 10; thing++ {
			isIn := wantOuter(l, thing) != 0
			isRing := outer == thing || hasThing(l, thing, outer)
			checkPutIn(t, l, inner(outer, thing), outer > 0 && thing > 0 && !isIn && !isRing)
		}
	}
	for _, x := range atLimits(inner(50, 60), innerFields) {
		checkPutIn(t, nil, x, true)
		checkPutIn(t, nested(19), x, wantOuter(nested(19), x.Thing) == 0)
	}
	for _, x := range beyondLimits(inner(50, 60), innerFields) {
		checkPutIn(t, nil, x, false)
		checkPutIn(t, l, x, false)
	}
	checkPutIn(t, nested(19), inner(1, 77), true)
	checkPutIn(t, nested(20), inner(1, 77), false)
	for _, bad := range invalidInners() {
		checkPutIn(t, bad, inner(77, 78), false)
	}
}

// checkTakeFrom also checks that the result is new memory.
func checkTakeFrom(t *testing.T, l []impl.Inner, thing int, want []impl.Inner, wantOk bool) {
	t.Helper()
	arg, unchanged := guarded(l, inner(77, thing))
	got, ok := impl.TakeFrom(arg, thing)
	checkList(t, got, want, "TakeFrom(%v, %d)", l, thing)
	checkValue(t, ok, wantOk, "TakeFrom(%v, %d)", l, thing)
	overwrite(got, inner(5, 5))
	unchanged(t)
}

func TestTakeFrom(t *testing.T) {
	for _, l := range someInners() {
		for _, thing := range someThingIds {
			at := slices.IndexFunc(l, func(x impl.Inner) bool { return x.Thing == thing })
			want := l
			if at >= 0 {
				want = slices.Concat(l[:at], l[at+1:])
			}
			checkTakeFrom(t, l, thing, want, at >= 0)
		}
	}
	for _, bad := range invalidInners() {
		for _, x := range bad {
			checkTakeFrom(t, bad, x.Thing, bad, false)
			checkTakeFrom(t, bad, x.Outer, bad, false)
		}
	}
}
