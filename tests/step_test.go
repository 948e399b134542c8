package tests

import (
	"math"
	"slices"
	"testing"

	"loop.example/g03007/impl"
)

// A tried step is one with its arguments.
type tried func(h impl.House) (impl.House, bool)

// checkStep also checks that the house is not changed, and that the result is new memory and valid.
func checkStep(t *testing.T, h impl.House, step tried, want impl.House, wantOk bool, format string, args ...any) {
	t.Helper()
	wantText := houseText(want)
	arg, unchanged := guardedHouse(h)
	got, ok := step(arg)
	checkValue(t, houseText(got), wantText, format, args...)
	checkValue(t, ok, wantOk, format, args...)
	if ok {
		checkValue(t, impl.IsHouse(got), true, "IsHouse of "+format, args...)
	}
	overwriteHouse(got)
	unchanged(t)
}

func checkNoStep(t *testing.T, h impl.House, step tried, format string, args ...any) {
	t.Helper()
	checkStep(t, h, step, h, false, format, args...)
}

// after returns what becomes of a house by a change.
func after(h impl.House, apply func(h *impl.House)) impl.House {
	apply(&h)
	return h
}

func finding(f impl.Find, salt int, marks ...impl.Mark) tried {
	return func(h impl.House) (impl.House, bool) { return impl.StepFind(h, f, marks, salt) }
}

func claiming(id int, who int, thing int) tried {
	return func(h impl.House) (impl.House, bool) { return impl.StepClaim(h, id, who, thing) }
}

func answering(claim int, answer int) tried {
	return func(h impl.House) (impl.House, bool) { return impl.StepAnswer(h, claim, answer) }
}

func serving(thing int) tried {
	return func(h impl.House) (impl.House, bool) { return impl.StepServe(h, thing) }
}

func selling(thing int, bids ...impl.Bid) tried {
	return func(h impl.House) (impl.House, bool) { return impl.StepSell(h, thing, bids) }
}

func clearing(thing int) tried {
	return func(h impl.House) (impl.House, bool) { return impl.StepClear(h, thing) }
}

func ticking(n int) tried {
	return func(h impl.House) (impl.House, bool) { return impl.StepTick(h, n) }
}

// someSteps has one of each kind.
func someSteps() []tried {
	return []tried{finding(findOf(10, 3, 60), 5, mark(1, 4)), claiming(2, 16, 4), answering(1, 7), serving(2), selling(4, bid(101, 700)), clearing(4), ticking(5)}
}

func TestStepFind(t *testing.T) {
	marks := []impl.Mark{mark(3, 9), mark(20, 0)}
	for _, c := range []struct{ id, size, index, slot int }{{10, 4, 4, 1}, {1, 10, 0, 1}, {5, 1, 2, 1}, {7, 11, 3, 3}, {999, 50, 4, 3}} {
		f := findOf(c.id, 3, 60)
		f.Thing.Size, f.Finder = c.size, 999
		want := after(fullHouse(), func(h *impl.House) {
			h.Finds = slices.Insert(h.Finds, c.index, f)
			h.Secrets = slices.Insert(h.Secrets, c.index, secret(c.id, 1000000, marks...))
			h.Slots[c.slot].Thing = c.id
			h.Chain = sealed(append(h.Chain, hand(c.id, impl.HdHouse, 3, 60))...)
		})
		checkStep(t, fullHouse(), finding(f, 1000000, marks...), want, true, "StepFind of %+v", f)
	}
	// The marks of the result are its own.
	own := []impl.Mark{mark(3, 9)}
	arg, unchanged := guarded(own, mark(4, 4))
	got, ok := impl.StepFind(fullHouse(), findOf(10, 3, 0), arg, 0)
	checkValue(t, ok, true, "StepFind of what was found at 0")
	overwriteHouse(got)
	unchanged(t)
}

func TestStepFindOfWhatWasElsewhere(t *testing.T) {
	// The thing 90 comes from another house, and 91 from its finder; 6 was given to its owner.
	for _, id := range []int{90, 91} {
		want := after(fullHouse(), func(h *impl.House) {
			h.Finds, h.Secrets = append(h.Finds, findOf(id, 3, 60)), append(h.Secrets, secret(id, 5, mark(1, 4)))
			h.Slots[1].Thing = id
			h.Chain = sealed(append(h.Chain, hand(id, impl.HdHouse, 3, 60))...)
		})
		checkStep(t, fullHouse(), finding(findOf(id, 3, 60), 5, mark(1, 4)), want, true, "StepFind of the thing %d", id)
	}
	gone := after(fullHouse(), func(h *impl.House) {
		h.Chain = sealed(append(h.Chain, hand(90, impl.HdGone, 0, 60))...)
	})
	checkNoStep(t, gone, finding(findOf(90, 3, 60), 5, mark(1, 4)), "StepFind of what is gone")
}

func TestStepFindRejects(t *testing.T) {
	h := fullHouse()
	for _, id := range []int{2, 4, 6, 8} {
		checkNoStep(t, h, finding(findOf(id, 3, 60), 5, mark(1, 4)), "StepFind of the thing %d again", id)
	}
	for _, f := range invalidFinds() {
		checkNoStep(t, h, finding(f, 5, mark(1, 4)), "StepFind of %+v", f)
	}
	for _, at := range []int{61, impl.MaxHour} {
		checkNoStep(t, h, finding(findOf(10, 3, at), 5, mark(1, 4)), "StepFind at %d", at)
	}
	for _, salt := range []int{-1, 1000001, math.MinInt, math.MaxInt} {
		checkNoStep(t, h, finding(findOf(10, 3, 60), salt, mark(1, 4)), "StepFind with the salt %d", salt)
	}
	checkNoStep(t, h, finding(findOf(10, 3, 60), 5), "StepFind without marks")
	for _, marks := range invalidMarks() {
		checkNoStep(t, h, finding(findOf(10, 3, 60), 5, marks...), "StepFind with the marks %v", marks)
	}
	noRoom := after(fullHouse(), func(h *impl.House) { h.Slots = h.Slots[:3] })
	large := findOf(10, 3, 60)
	large.Thing.Size = 11
	checkNoStep(t, noRoom, finding(large, 5, mark(1, 4)), "StepFind of what is too large")
	noSlot := after(noRoom, func(h *impl.House) { h.Slots = []impl.Slot{h.Slots[0], h.Slots[2]} })
	checkNoStep(t, noSlot, finding(findOf(10, 3, 60), 5, mark(1, 4)), "StepFind without a free slot")
	longest := impl.House{No: 1, Slots: slotsFrom(1, 30), Chain: longChain(100), Now: 7}
	for i := range longest.Chain {
		longest.Chain[i].Who = 2
	}
	longest.Chain = sealed(longest.Chain...)
	checkNoStep(t, longest, finding(findOf(10, 3, 7), 5, mark(1, 4)), "StepFind with a full chain")
	longest.Chain = longest.Chain[:99]
	_, ok := impl.StepFind(longest, findOf(10, 3, 7), []impl.Mark{mark(1, 4)}, 5)
	checkValue(t, ok, true, "StepFind with room for one hand")
}

func TestStepClaim(t *testing.T) {
	for _, c := range []struct{ id, who, thing, index int }{{2, 16, 2, 1}, {2, 11, 4, 1}, {7, 1, 4, 3}, {998, 999, 2, 4}} {
		want := after(fullHouse(), func(h *impl.House) {
			h.Claims = slices.Insert(h.Claims, c.index, claim(c.id, c.who, c.thing, 60, impl.ClOpen))
			h.Trials = slices.Insert(h.Trials, c.index, trial(c.id, 0, 0))
		})
		checkStep(t, fullHouse(), claiming(c.id, c.who, c.thing), want, true, "StepClaim(.., %d, %d, %d)", c.id, c.who, c.thing)
	}
}

func TestStepClaimRejects(t *testing.T) {
	h := fullHouse()
	for _, c := range [][3]int{
		// There is such a claim, or one of the same person.
		{1, 16, 4}, {3, 16, 4}, {999, 16, 4}, {2, 11, 2}, {2, 13, 2},
		// The thing is in no slot.
		{2, 16, 6}, {2, 16, 8}, {2, 16, 9}, {2, 16, 90}, {2, 16, 91}, {2, 16, 0}, {2, 16, -1}, {2, 16, 1000},
		{0, 16, 4}, {-1, 16, 4}, {1000, 16, 4}, {2, 0, 4}, {2, -1, 4}, {2, 1000, 4}, {math.MinInt, 16, 4}, {2, math.MaxInt, 4},
	} {
		checkNoStep(t, h, claiming(c[0], c[1], c[2]), "StepClaim(.., %d, %d, %d)", c[0], c[1], c[2])
	}
	many := after(fullHouse(), func(h *impl.House) {
		h.Claims, h.Trials = nil, nil
		for i := range 20 {
			h.Claims, h.Trials = append(h.Claims, claim(10+i, 10+i, 2, 5, 0)), append(h.Trials, trial(10+i, 0, 0))
		}
	})
	checkNoStep(t, many, claiming(5, 500, 4), "StepClaim with 20 claims")
	many.Claims, many.Trials = many.Claims[1:], many.Trials[1:]
	_, ok := impl.StepClaim(many, 5, 500, 4)
	checkValue(t, ok, true, "StepClaim with 19 claims")
}

func TestStepAnswer(t *testing.T) {
	h := fullHouse()
	// Claim 1 has two right answers and a wrong one; it needs one more.
	right := impl.AnswerOf(h.Secrets[0].Marks, impl.NextQuestion(h.Secrets[0].Marks, h.Trials[0]))
	checkStep(t, h, answering(1, right), after(fullHouse(), func(h *impl.House) {
		h.Claims[0].State, h.Trials[0] = impl.ClProved, trial(1, 3, 1)
	}), true, "StepAnswer that proves")
	for _, wrong := range []int{right + 1, -1, 100, math.MinInt} {
		checkStep(t, h, answering(1, wrong), after(fullHouse(), func(h *impl.House) {
			h.Claims[0].State, h.Trials[0] = impl.ClFailed, trial(1, 2, 2)
		}), true, "StepAnswer of %d that fails", wrong)
	}
	// Claim 999 for a thing that is in another house has a trial without an answer, and needs two.
	first := impl.AnswerOf(h.Secrets[3].Marks, impl.QuestionFor(h.Secrets[3].Marks, 999, 0))
	checkStep(t, h, answering(999, first), after(fullHouse(), func(h *impl.House) { h.Trials[4] = trial(999, 1, 0) }), true, "StepAnswer that is right")
	checkStep(t, h, answering(999, first+1), after(fullHouse(), func(h *impl.House) { h.Trials[4] = trial(999, 0, 1) }), true, "StepAnswer that is wrong")
}

func TestStepAnswerRejects(t *testing.T) {
	for _, id := range []int{3, 4, 8, 0, -1, 2, 5, 1000, math.MinInt, math.MaxInt} {
		for _, answer := range []int{-1, 0, 1, 7, 40} {
			checkNoStep(t, fullHouse(), answering(id, answer), "StepAnswer(.., %d, %d)", id, answer)
		}
	}
}

// feeHouse has a thing of this worth, found at the hour 0, whose claim is proved.
func feeHouse(worth int, now int) impl.House {
	f := findOf(2, 5, 0)
	f.Thing.Worth = worth
	return impl.House{
		No: 1, Now: now, Finds: []impl.Find{f}, Secrets: []impl.Secret{secret(2, 5, mark(1, 4))}, Slots: []impl.Slot{slot(7, 5, 2)},
		Claims: []impl.Claim{claim(3, 12, 2, 0, impl.ClProved)}, Trials: []impl.Trial{trial(3, 1, 0)}, Chain: sealed(hand(2, impl.HdHouse, 1, 0)),
	}
}

func TestStepServe(t *testing.T) {
	checkStep(t, fullHouse(), serving(2), after(fullHouse(), func(h *impl.House) {
		h.Claims[2].State = impl.ClServed
		h.Slots[2].Thing = 0
		h.Chain = sealed(append(h.Chain, hand(2, impl.HdOwner, 13, 60))...)
		h.Book = append(h.Book, entry(13, 0, 90, 60))
	}), true, "StepServe")
}

func TestStepServeTakesTheFee(t *testing.T) {
	for _, worth := range []int{0, 9, 10, 900, 1090, 1100, 1109, 1110, 10000000} {
		for _, now := range []int{0, 23, 24, 25, 48, 239, 240, 23999, 24000, 24023, 24024, 100000} {
			fee := 0
			if days := now / 24; days <= 1000 {
				fee = min(100+10*days, worth/10)
			}
			want := after(feeHouse(worth, now), func(h *impl.House) {
				h.Claims[0].State = impl.ClServed
				h.Slots[0].Thing = 0
				h.Chain = sealed(append(h.Chain, hand(2, impl.HdOwner, 12, now))...)
				if fee > 0 {
					h.Book = append(h.Book, entry(12, 0, fee, now))
				}
			})
			checkStep(t, feeHouse(worth, now), serving(2), want, true, "StepServe of a thing of %d at %d", worth, now)
		}
	}
	// The days are those since it was found.
	for at, fee := range map[int]int{0: 140, 3: 140, 4: 140, 5: 130, 28: 130, 29: 120, 76: 110, 77: 100, 100: 100} {
		h := feeHouse(10000, 100)
		h.Finds[0].At = at
		got, ok := impl.StepServe(h, 2)
		checkValue(t, ok, true, "StepServe of what was found at %d", at)
		checkList(t, got.Book, []impl.Entry{entry(12, 0, fee, 100)}, "the book behind StepServe of what was found at %d", at)
	}
	full := feeHouse(900, 50)
	full.Book = entriesOf(100)
	checkNoStep(t, full, serving(2), "StepServe with a full book")
	full.Finds[0].Thing.Worth = 9
	_, ok := impl.StepServe(full, 2)
	checkValue(t, ok, true, "StepServe without a fee with a full book")
}

func TestStepServeServesTheFirstProved(t *testing.T) {
	h := feeHouse(0, 50)
	h.Claims = []impl.Claim{claim(3, 12, 2, 9, impl.ClProved), claim(4, 13, 2, 8, impl.ClProved), claim(5, 14, 2, 8, impl.ClProved), claim(6, 15, 2, 1, impl.ClOpen)}
	h.Trials = []impl.Trial{trial(3, 1, 0), trial(4, 1, 1), trial(5, 1, 0), trial(6, 0, 1)}
	got, ok := impl.StepServe(h, 2)
	checkValue(t, ok, true, "StepServe")
	checkList(t, got.Claims, []impl.Claim{h.Claims[0], claim(4, 13, 2, 8, impl.ClServed), h.Claims[2], h.Claims[3]}, "the claims behind StepServe")
	checkValue(t, got.Chain[1].Who, 13, "the owner behind StepServe")
	checkNoStep(t, got, serving(2), "StepServe again")
}

func TestServingWhatNobodyProved(t *testing.T) {
	h := fullHouse()
	h.Claims[2].State, h.Trials[2] = impl.ClOpen, trial(4, 2, 1)
	checkNoStep(t, h, serving(2), "StepServe of what is only claimed")
	h.Claims[2].State, h.Trials[2] = impl.ClFailed, trial(4, 2, 2)
	checkNoStep(t, h, serving(2), "StepServe of what was not proved")
	for _, thing := range []int{4, 6, 8, 9, 90, 91, 0, -1, 1000, math.MinInt, math.MaxInt} {
		checkNoStep(t, fullHouse(), serving(thing), "StepServe of the thing %d", thing)
	}
	// It was proved, but is in no slot any more.
	away := fullHouse()
	away.Claims[4].State, away.Trials[4] = impl.ClProved, trial(999, 2, 0)
	checkNoStep(t, away, serving(8), "StepServe of what is in another house")
}

// saleHouse has a thing of this worth that is due and that nobody claims.
func saleHouse(worth int, finder int) impl.House {
	h := after(feeHouse(worth, 2160), func(h *impl.House) {
		h.Claims, h.Trials = nil, nil
		h.Finds[0].Finder = finder
	})
	return h
}

func TestStepSell(t *testing.T) {
	for _, finder := range []int{0, 1, 8, 101, 999} {
		for _, c := range []struct {
			bids       []impl.Bid
			who, price int
		}{
			{[]impl.Bid{bid(101, 700), bid(102, 300)}, 101, 300}, {[]impl.Bid{bid(102, 300), bid(101, 700)}, 101, 300}, {[]impl.Bid{bid(102, 300), bid(101, 300)}, 102, 300},
			{[]impl.Bid{bid(999, 10000000)}, 999, 1}, {[]impl.Bid{bid(5, 1), bid(6, 10), bid(7, 11)}, 7, 10}, {[]impl.Bid{bid(5, 10000000), bid(6, 10000000)}, 5, 10000000},
		} {
			want := after(saleHouse(5001, finder), func(h *impl.House) {
				h.Slots[0].Thing = 0
				h.Chain = sealed(append(h.Chain, hand(2, impl.HdBuyer, c.who, 2160))...)
				h.Book = append(h.Book, entry(c.who, 0, c.price, 2160))
				if finder != 0 {
					h.Book = append(h.Book, entry(0, finder, (c.price+9)/10, 2160))
				}
			})
			arg, unchanged := guarded(c.bids, bid(77, 10000000))
			checkStep(t, saleHouse(5001, finder), selling(2, arg...), want, true, "StepSell found by %d to %v", finder, c.bids)
			unchanged(t)
		}
	}
}

func TestStepSellRejects(t *testing.T) {
	two := []impl.Bid{bid(101, 700), bid(102, 300)}
	for _, bids := range append(invalidBids(), nil, []impl.Bid{}) {
		checkNoStep(t, saleHouse(5001, 8), selling(2, bids...), "StepSell to %v", bids)
	}
	for _, thing := range []int{0, 1, 3, -2, 1000, math.MinInt, math.MaxInt} {
		checkNoStep(t, saleHouse(5001, 8), selling(thing, two...), "StepSell of the thing %d", thing)
	}
	for _, worth := range []int{0, 900, 5000} {
		checkNoStep(t, saleHouse(worth, 8), selling(2, two...), "StepSell of a thing of %d", worth)
	}
	early := saleHouse(5001, 8)
	early.Now = 2159
	checkNoStep(t, early, selling(2, two...), "StepSell of what is not due")
	for state, x := range []impl.Trial{trial(3, 0, 0), trial(3, 1, 0), trial(3, 0, 2)} {
		h := saleHouse(5001, 8)
		h.Claims, h.Trials = []impl.Claim{claim(3, 12, 2, 0, state)}, []impl.Trial{x}
		_, ok := impl.StepSell(h, 2, two)
		checkValue(t, ok, state == impl.ClFailed, "StepSell of what has a claim with the state %d", state)
	}
	sold, _ := impl.StepSell(saleHouse(5001, 8), 2, two)
	checkNoStep(t, sold, selling(2, two...), "StepSell of what is sold")
	for count, want := range map[int]bool{98: true, 99: false, 100: false} {
		full := saleHouse(5001, 8)
		full.Book = entriesOf(count)
		got, ok := impl.StepSell(full, 2, two)
		checkValue(t, ok, want, "StepSell with %d entries", count)
		if !ok {
			checkSameHouse(t, got, full, "StepSell with %d entries", count)
		}
	}
}

func TestStepClear(t *testing.T) {
	for _, c := range []struct {
		kind, worth, finder, holder, who int
	}{
		{impl.KdBag, 900, 7, impl.HdOwner, 7}, {impl.KdBag, 5000, 999, impl.HdOwner, 999}, {impl.KdBag, 900, 0, impl.HdGone, 0}, {impl.KdBag, 1, 0, impl.HdGone, 0},
		{impl.KdBag, 0, 0, impl.HdGone, 0}, {impl.KdBag, 0, 7, impl.HdGone, 0}, {impl.KdFood, 900, 7, impl.HdGone, 0}, {impl.KdFood, 10000000, 7, impl.HdGone, 0},
	} {
		h := saleHouse(c.worth, c.finder)
		h.Finds[0].Thing.Kind = c.kind
		want := after(saleHouse(c.worth, c.finder), func(h *impl.House) {
			h.Finds[0].Thing.Kind = c.kind
			h.Slots[0].Thing = 0
			h.Chain = sealed(append(h.Chain, hand(2, c.holder, c.who, 2160))...)
		})
		checkStep(t, h, clearing(2), want, true, "StepClear of %+v", h.Finds[0])
		checkNoStep(t, want, clearing(2), "StepClear again of %+v", h.Finds[0])
	}
}

func TestStepClearRejects(t *testing.T) {
	for _, finder := range []int{0, 7} {
		checkNoStep(t, saleHouse(5001, finder), clearing(2), "StepClear of what is sold")
	}
	for _, thing := range []int{0, 1, 3, -2, 1000, math.MinInt, math.MaxInt} {
		checkNoStep(t, saleHouse(900, 7), clearing(thing), "StepClear of the thing %d", thing)
	}
	early := saleHouse(900, 7)
	early.Now = 2159
	checkNoStep(t, early, clearing(2), "StepClear of what is not due")
	for state, x := range []impl.Trial{trial(3, 0, 0), trial(3, 1, 0), trial(3, 0, 2)} {
		h := saleHouse(900, 7)
		h.Claims, h.Trials = []impl.Claim{claim(3, 12, 2, 0, state)}, []impl.Trial{x}
		_, ok := impl.StepClear(h, 2)
		checkValue(t, ok, state == impl.ClFailed, "StepClear of what has a claim with the state %d", state)
	}
	// It is due, but in no slot any more.
	late := fullHouse()
	late.Claims, late.Trials = nil, nil
	late.Now = impl.MaxHour
	checkNoStep(t, late, clearing(6), "StepClear of what was served")
	checkNoStep(t, late, clearing(8), "StepClear of what is in another house")
	full := saleHouse(900, 7)
	full.Chain = nil
	for range 100 {
		full.Chain = append(full.Chain, hand(2, impl.HdHouse, 1, 0))
	}
	full.Chain = sealed(full.Chain...)
	checkNoStep(t, full, clearing(2), "StepClear with a full chain")
}

func TestStepTick(t *testing.T) {
	for _, now := range []int{60, 61, 50000, 90000, 99999, 100000} {
		h := after(fullHouse(), func(h *impl.House) { h.Now = now })
		for _, n := range []int{1, 2, 24, 9999, 10000} {
			want := after(fullHouse(), func(h *impl.House) { h.Now = now + n })
			if now+n > 100000 {
				checkNoStep(t, h, ticking(n), "StepTick of %d at %d", n, now)
				continue
			}
			checkStep(t, h, ticking(n), want, true, "StepTick of %d at %d", n, now)
		}
		for _, n := range []int{0, -1, -2, 10001, 10002, math.MinInt, math.MaxInt} {
			checkNoStep(t, h, ticking(n), "StepTick of %d at %d", n, now)
		}
	}
}

func TestStepsOfInvalidHouses(t *testing.T) {
	for _, h := range invalidHouses() {
		for i, step := range someSteps() {
			checkNoStep(t, h, step, "the step %d of the house %+v", i, h)
		}
	}
}

// dice gives numbers that look like chance, the same ones each time.
func dice(seed int) func(n int) int {
	state := uint32(seed)
	return func(n int) int {
		state = state*1664525 + 1013904223
		return int(state>>8) % n
	}
}

// anyStep often succeeds in a house with a few things.
func anyStep(roll func(n int) int) tried {
	thing := roll(8) + 1
	switch roll(9) {
	case 0:
		f := findOf(thing, roll(5)+1, roll(40))
		f.Thing.Kind, f.Thing.Worth, f.Finder = roll(8)+1, roll(3)*3000, roll(3)
		return finding(f, roll(3), marksFrom(roll(5)+1, roll(4)+1)...)
	case 1, 2:
		return claiming(roll(12)+1, roll(6)+1, thing)
	case 3, 4:
		return answering(roll(12)+1, 99-10*roll(4))
	case 5:
		return serving(thing)
	case 6:
		return selling(thing, bid(roll(9)+1, roll(700)+1), bid(roll(9)+10, roll(700)+1))
	case 7:
		return clearing(thing)
	}
	return ticking([]int{1, 5, 24, 700, 0}[roll(5)])
}

func TestStepsKeepHousesValid(t *testing.T) {
	count := 0
	for seed := range 40 {
		roll := dice(seed)
		h, _ := impl.NewHouse(1, []impl.Slot{slot(1, 4, 0), slot(2, 4, 0), slot(3, 9, 0), slot(4, 9, 0), slot(5, 9, 0)})
		for range 150 {
			before := houseText(h)
			next, ok := anyStep(roll)(h)
			checkValue(t, houseText(h), before, "the house of the argument")
			if ok {
				count++
			}
			checkValue(t, impl.IsHouse(next), true, "IsHouse(%+v)", next)
			checkValue(t, houseText(next) != before, ok, "whether a step changed %s", before)
			h = next
		}
	}
	if count < 1000 {
		t.Errorf("only %d steps succeeded", count)
	}
}
