package tests

import (
	"fmt"
	"math"
	"slices"
	"testing"

	"loop.example/g03007/impl"
)

// guardedEvent guards the lists of an event.
func guardedEvent(e impl.Event) (impl.Event, func(t *testing.T)) {
	marks, sameMarks := guarded(e.Marks, mark(20, 99))
	bids, sameBids := guarded(e.Bids, bid(77, 10000000))
	e.Marks, e.Bids = marks, bids
	return e, func(t *testing.T) {
		t.Helper()
		sameMarks(t)
		sameBids(t)
	}
}

// stepOf is what an event performs; nil for other kinds.
func stepOf(e impl.Event) tried {
	switch e.Kind {
	case 1:
		return finding(e.Find, e.N, e.Marks...)
	case 2:
		return claiming(e.Id, e.Who, e.N)
	case 3:
		return answering(e.Id, e.N)
	case 4:
		return serving(e.N)
	case 5:
		return selling(e.N, e.Bids...)
	case 6:
		return clearing(e.N)
	case 7:
		return ticking(e.N)
	}
	return nil
}

// checkEvent holds an event against its step.
func checkEvent(t *testing.T, h impl.House, e impl.Event) bool {
	t.Helper()
	want, wantOk := h, false
	if step := stepOf(e); step != nil {
		want, wantOk = step(h)
	}
	arg, unchanged := guardedEvent(e)
	checkStep(t, h, func(h impl.House) (impl.House, bool) { return impl.ApplyEvent(h, arg) }, want, wantOk, "ApplyEvent(.., %+v)", e)
	unchanged(t)
	return wantOk
}

func someEvents() []impl.Event {
	return []impl.Event{
		{Kind: impl.EvFind, Find: findOf(10, 3, 60), Marks: []impl.Mark{mark(1, 4), mark(2, 5)}, N: 9}, {Kind: impl.EvClaim, Id: 2, Who: 16, N: 4}, {Kind: impl.EvAnswer, Id: 1, N: 7}, {Kind: impl.EvAnswer, Id: 1, N: 40},
		{Kind: impl.EvServe, N: 2}, {Kind: impl.EvTick, N: 5},
		{Kind: impl.EvFind, Find: findOf(2, 3, 60), Marks: []impl.Mark{mark(1, 4)}}, {Kind: impl.EvClaim, Id: 2, Who: 16, N: 6}, {Kind: impl.EvAnswer, Id: 2, N: 7}, {Kind: impl.EvServe, N: 4},
		{Kind: impl.EvSell, N: 4, Bids: []impl.Bid{bid(101, 700)}}, {Kind: impl.EvClear, N: 4}, {Kind: impl.EvTick}, {Kind: impl.EvTick, N: 10001},
	}
}

func TestEventName(t *testing.T) {
	checkNames(t, impl.EventName, []string{"", "find", "claim", "answer", "serve", "sell", "clear", "tick"})
	checkList(t, []int{impl.EvFind, impl.EvClaim, impl.EvAnswer, impl.EvServe, impl.EvSell, impl.EvClear, impl.EvTick}, []int{1, 2, 3, 4, 5, 6, 7}, "the kinds of events")
}

func TestApplyEvent(t *testing.T) {
	succeeded := map[int]bool{}
	for _, e := range someEvents() {
		// An event of another kind has the same fields, but they mean something else.
		for kind := 1; kind <= 7; kind++ {
			e.Kind = kind
			for _, h := range []impl.House{fullHouse(), saleHouse(5001, 8), saleHouse(900, 0), feeHouse(900, 50), emptyHouse(), {}} {
				if checkEvent(t, h, e) {
					succeeded[kind] = true
				}
			}
		}
	}
	for _, h := range []impl.House{saleHouse(5001, 8), saleHouse(900, 0), saleHouse(900, 7)} {
		for kind := impl.EvSell; kind <= impl.EvClear; kind++ {
			if checkEvent(t, h, impl.Event{Kind: kind, N: 2, Bids: []impl.Bid{bid(101, 700), bid(102, 300)}}) {
				succeeded[kind] = true
			}
		}
	}
	checkValue(t, len(succeeded), 7, "the number of kinds of events that succeeded")
}

func TestEventsOfNoKind(t *testing.T) {
	for _, kind := range []int{0, -1, -7, 8, 9, 255, 256, 257, math.MinInt, math.MaxInt} {
		for _, e := range append(someEvents(), impl.Event{}) {
			e.Kind = kind
			for _, h := range []impl.House{fullHouse(), emptyHouse(), {}, saleHouse(900, 0)} {
				step := func(h impl.House) (impl.House, bool) { return impl.ApplyEvent(h, e) }
				checkNoStep(t, h, step, "ApplyEvent(.., %+v)", e)
			}
		}
	}
}

func TestEventsOfInvalidHouses(t *testing.T) {
	for _, h := range invalidHouses() {
		for _, e := range someEvents() {
			step := func(h impl.House) (impl.House, bool) { return impl.ApplyEvent(h, e) }
			checkNoStep(t, h, step, "ApplyEvent(%+v, %+v)", h, e)
		}
		arg, unchanged := guardedHouse(h)
		got := impl.RunEvents(arg, someEvents())
		checkSameHouse(t, got, h, "RunEvents(%+v, ..)", h)
		overwriteHouse(got)
		unchanged(t)
	}
}

// history is one in which most of the events succeed.
func history(seed int) []impl.Event {
	roll := dice(seed)
	var l []impl.Event
	for range 60 {
		thing := roll(6) + 1
		e := impl.Event{Kind: roll(9), Id: roll(9) + 1, Who: roll(5) + 1, N: thing}
		switch e.Kind {
		case impl.EvFind:
			e.Find = findOf(thing, roll(5)+1, roll(30))
			e.Find.Thing.Worth, e.Find.Finder = roll(3)*3000, roll(3)
			e.Marks = marksFrom(1, roll(2)+1)
		case impl.EvAnswer:
			e.N = 99 - 10*roll(2)
		case impl.EvSell:
			e.Bids = []impl.Bid{bid(roll(9)+1, roll(700)+1), bid(roll(9)+10, roll(700)+1)}
		case impl.EvTick:
			e.N = roll(700)
		}
		l = append(l, e)
	}
	return l
}

func openHouse() impl.House {
	return impl.House{No: 2, Slots: []impl.Slot{slot(1, 5, 0), slot(2, 9, 0), slot(3, 9, 0)}}
}

func TestRunEvents(t *testing.T) {
	for seed := range 30 {
		want := openHouse()
		events := history(seed)
		for _, e := range events {
			if step := stepOf(e); step != nil {
				want, _ = step(want)
			}
		}
		before := fmt.Sprint(events)
		arg, unchanged := guardedHouse(openHouse())
		got := impl.RunEvents(arg, events)
		checkSameHouse(t, got, want, "RunEvents of the history %d", seed)
		overwriteHouse(got)
		unchanged(t)
		checkValue(t, fmt.Sprint(events), before, "the events of the argument")
	}
	for _, h := range append(someHouses(), impl.House{}) {
		arg, unchanged := guardedHouse(h)
		got := impl.RunEvents(arg, nil)
		checkSameHouse(t, got, h, "RunEvents without events")
		overwriteHouse(got)
		unchanged(t)
	}
}

func TestHistoriesCanBeDivided(t *testing.T) {
	served := 0
	for seed := range 30 {
		events := history(seed)
		whole := impl.RunEvents(openHouse(), events)
		served += len(whole.Book)
		for at := 0; at <= len(events); at += 7 {
			first := impl.RunEvents(openHouse(), events[:at])
			parts := impl.RunEvents(first, events[at:])
			checkValue(t, impl.EqualHouses(parts, whole), true, "whether the history %d can be divided at %d", seed, at)
		}
	}
	if served == 0 {
		t.Error("no history comes to a payment")
	}
}

func TestOneHistory(t *testing.T) {
	events := impl.FindAll([]impl.Find{findOf(2, 1, 0), findOf(4, 1, 0)}, []impl.Mark{mark(1, 4)})
	events = append(events, impl.Event{Kind: impl.EvTick, N: 3}, impl.Event{Kind: impl.EvClaim, Id: 5, Who: 11, N: 2}, impl.Event{Kind: impl.EvAnswer, Id: 5, N: 9}, impl.Event{Kind: impl.EvAnswer, Id: 5, N: 4}, impl.Event{Kind: impl.EvServe, N: 2})
	want := impl.House{
		No: 2, Now: 3, Finds: []impl.Find{findOf(2, 1, 0), findOf(4, 1, 0)}, Secrets: []impl.Secret{secret(2, 0, mark(1, 4)), secret(4, 0, mark(1, 4))},
		Slots: []impl.Slot{slot(1, 5, 0), slot(2, 9, 4), slot(3, 9, 0)}, Claims: []impl.Claim{claim(5, 11, 2, 3, impl.ClServed)}, Trials: []impl.Trial{trial(5, 1, 1)},
		Chain: sealed(hand(2, impl.HdHouse, 2, 0), hand(4, impl.HdHouse, 2, 0), hand(2, impl.HdOwner, 11, 3)), Book: []impl.Entry{entry(11, 0, 90, 3)},
	}
	checkSameHouse(t, impl.RunEvents(openHouse(), events), want, "RunEvents")
}

func TestCountEvents(t *testing.T) {
	events := append(history(1), impl.Event{}, impl.Event{Kind: -1}, impl.Event{Kind: 99}, impl.Event{Kind: 99})
	for _, kind := range []int{math.MinInt, -1, 0, 1, 2, 3, 4, 5, 6, 7, 8, 99, math.MaxInt} {
		want := 0
		for _, e := range events {
			if e.Kind == kind {
				want++
			}
		}
		checkValue(t, impl.CountEvents(events, kind), want, "CountEvents(.., %d)", kind)
	}
	checkValue(t, impl.CountEvents(nil, 0), 0, "CountEvents of no events")
}

func TestFindAll(t *testing.T) {
	finds := []impl.Find{findOf(4, 1, 9), findOf(2, 5, 3), {}, findOf(2, 5, 3)}
	for _, l := range [][]impl.Find{nil, {}, finds, findsFrom(1, 25)} {
		for _, marks := range append(someMarks(), invalidMarks()...) {
			arg, sameFinds := guarded(l, leastFind)
			own, sameMarks := guarded(marks, mark(20, 99))
			got := impl.FindAll(arg, own)
			var want []impl.Event
			for _, f := range l {
				want = append(want, impl.Event{Kind: impl.EvFind, Find: f, Marks: slices.Clone(marks)})
			}
			checkValue(t, fmt.Sprintf("%+v", got), fmt.Sprintf("%+v", want), "FindAll(%+v, %v)", l, marks)
			// No two events share their marks.
			for i := range got {
				overwrite(got[i].Marks, mark(i, i))
			}
			for i := range got {
				if len(marks) > 0 && got[i].Marks[0] != mark(i, i) {
					t.Errorf("the marks of the events %d and %d are the same memory", i, len(got)-1)
				}
			}
			sameFinds(t)
			sameMarks(t)
		}
	}
}
