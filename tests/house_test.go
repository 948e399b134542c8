package tests

import (
	"fmt"
	"math"
	"slices"
	"testing"

	"loop.example/g03007/impl"
)

// fullHouse has two things in slots, one that was served and one that is in another house, and claims in all states.
func fullHouse() impl.House {
	marks := []impl.Mark{mark(2, 7), mark(5, 40), mark(9, 0)}
	return impl.House{
		No:      3,
		Finds:   []impl.Find{findOf(2, 5, 5), findOf(4, 1, 6), findOf(6, 2, 7), findOf(8, 9, 8)},
		Secrets: []impl.Secret{secret(2, 77, marks...), secret(4, 0, mark(1, 1)), secret(6, 5, marks[:2]...), secret(8, 9, marks[1:]...)},
		Slots:   []impl.Slot{slot(1, 5, 4), slot(2, 10, 0), slot(5, 10, 2), slot(99, 50, 0)},
		Claims:  []impl.Claim{claim(1, 11, 2, 20, impl.ClOpen), claim(3, 12, 6, 30, impl.ClServed), claim(4, 13, 2, 31, impl.ClProved), claim(8, 14, 6, 32, impl.ClFailed), claim(999, 15, 8, 33, impl.ClOpen)},
		Trials:  []impl.Trial{trial(1, 2, 1), trial(3, 2, 0), trial(4, 3, 1), trial(8, 1, 2), trial(999, 0, 0)},
		Chain: sealed(
			hand(2, impl.HdFinder, 7, 5), hand(2, impl.HdHouse, 3, 5), hand(4, impl.HdHouse, 3, 6), hand(6, impl.HdHouse, 3, 7), hand(8, impl.HdHouse, 3, 8),
			hand(6, impl.HdOwner, 12, 40), hand(8, impl.HdHouse, 5, 50), hand(90, impl.HdHouse, 5, 60), hand(91, impl.HdFinder, 3, 60),
		),
		Book: []impl.Entry{entry(12, 0, 90, 40), entry(0, 7, 5, 60)},
		Now:  60,
	}
}

func emptyHouse() impl.House {
	return impl.House{No: 9, Slots: []impl.Slot{slot(1, 5, 0), slot(2, 10, 0)}}
}

func houseText(h impl.House) string {
	return fmt.Sprintf("%+v", h)
}

func checkSameHouse(t *testing.T, got impl.House, want impl.House, format string, args ...any) {
	t.Helper()
	checkValue(t, houseText(got), houseText(want), format, args...)
}

// guardedHouse guards the lists of a house.
func guardedHouse(h impl.House) (impl.House, func(t *testing.T)) {
	var checks [8]func(t *testing.T)
	h.Finds, checks[0] = guarded(h.Finds, leastFind)
	h.Secrets, checks[1] = guardedSecrets(h.Secrets)
	h.Slots, checks[2] = guarded(h.Slots, slot(88, 50, 0))
	h.Claims, checks[3] = guarded(h.Claims, claim(1, 1, 1, 1, 0))
	h.Trials, checks[4] = guarded(h.Trials, trial(1, 1, 1))
	h.Chain, checks[5] = guarded(h.Chain, hand(1, 1, 1, 1))
	h.Book, checks[6] = guarded(h.Book, entry(1, 2, 3, 4))
	before := houseText(h)
	checks[7] = func(t *testing.T) {
		t.Helper()
		checkValue(t, houseText(h), before, "the house of the argument")
	}
	return h, func(t *testing.T) {
		t.Helper()
		for _, check := range checks {
			check(t)
		}
	}
}

func overwriteHouse(h impl.House) {
	overwrite(h.Finds, impl.Find{})
	overwriteSecrets(h.Secrets)
	overwrite(h.Slots, impl.Slot{})
	overwrite(h.Claims, impl.Claim{})
	overwrite(h.Trials, impl.Trial{})
	overwrite(h.Chain, impl.Hand{})
	overwrite(h.Book, impl.Entry{})
}

// A change makes another house of a full one.
type change struct {
	name  string
	apply func(h *impl.House)
}

// badChanges are against a house each.
func badChanges() []change {
	l := []change{
		{"the number 0", func(h *impl.House) { h.No = 0 }},
		{"the number 10", func(h *impl.House) { h.No = 10 }},
		{"a negative number", func(h *impl.House) { h.No = -3 }},
		{"another number", func(h *impl.House) { h.No = 4 }},
		{"the number of the other house", func(h *impl.House) { h.No = 5 }},

		{"a secret fewer", func(h *impl.House) { h.Secrets = h.Secrets[:3] }},
		{"no secrets", func(h *impl.House) { h.Secrets = nil }},
		{"a secret more", func(h *impl.House) { h.Secrets = append(h.Secrets, markedSecret(10, 5)) }},
		{"a secret of another thing", func(h *impl.House) { h.Secrets[3].Thing = 9 }},
		{"a secret in between", func(h *impl.House) { h.Secrets = slices.Insert(h.Secrets, 1, markedSecret(3, 5)) }},
		{"a secret without marks", func(h *impl.House) { h.Secrets[1].Marks = nil }},

		{"a find fewer", func(h *impl.House) { h.Finds = h.Finds[:3] }},
		{"a find more", func(h *impl.House) { h.Finds = append(h.Finds, findOf(10, 1, 5)) }},
		{"finds in another order", func(h *impl.House) { slices.Reverse(h.Finds) }},
		{"a find that is not valid", func(h *impl.House) { h.Finds[0].Place = 31 }},

		{"a slot without its thing", func(h *impl.House) { h.Slots[0].Thing = 0 }},
		{"a slot with a thing that is no find", func(h *impl.House) { h.Slots[1].Thing = 9 }},
		{"a slot with what was served", func(h *impl.House) { h.Slots[1].Thing = 6 }},
		{"a slot with what is in another house", func(h *impl.House) { h.Slots[3].Thing = 8 }},
		{"a slot with a thing of another house that is no find", func(h *impl.House) { h.Slots[3].Thing = 90 }},
		{"a thing in two slots", func(h *impl.House) { h.Slots[1].Thing = 2 }},
		{"a slot that is not valid", func(h *impl.House) { h.Slots[1].Size = 0 }},

		{"a claim for what is no find", func(h *impl.House) { h.Claims[4].Thing = 9 }},
		{"a claim more", func(h *impl.House) { h.Claims = slices.Insert(h.Claims, 1, claim(2, 16, 2, 5, 0)) }},
		{"a claim fewer", func(h *impl.House) { h.Claims = h.Claims[:4] }},
		{"claims that are not valid", func(h *impl.House) { h.Claims[0].Who = 0 }},
		{"an open claim that is failed", func(h *impl.House) { h.Claims[0].State = impl.ClFailed }},
		{"an open claim that is proved", func(h *impl.House) { h.Claims[0].State = impl.ClProved }},
		{"an open claim that is served", func(h *impl.House) { h.Claims[0].State = impl.ClServed }},
		{"a served claim that is open", func(h *impl.House) { h.Claims[1].State = impl.ClOpen }},
		{"a proved claim that is failed", func(h *impl.House) { h.Claims[2].State = impl.ClFailed }},
		{"a failed claim that is proved", func(h *impl.House) { h.Claims[3].State = impl.ClProved }},
		{"a failed claim that is open", func(h *impl.House) { h.Claims[3].State = impl.ClOpen }},

		{"a trial more", func(h *impl.House) { h.Trials = slices.Insert(h.Trials, 1, trial(2, 0, 0)) }},
		{"a trial behind the others", func(h *impl.House) { h.Claims, h.Trials = h.Claims[:4], append(h.Trials[:4], trial(9, 0, 0)) }},
		{"a trial fewer", func(h *impl.House) { h.Trials = h.Trials[:4] }},
		{"no trials", func(h *impl.House) { h.Trials = nil }},
		{"a trial of another claim", func(h *impl.House) { h.Trials[0].Claim = 2 }},
		{"trials in another order", func(h *impl.House) { h.Trials[0], h.Trials[4] = h.Trials[4], h.Trials[0] }},
		{"a trial that is not valid", func(h *impl.House) { h.Trials[4].Asked = 1 }},
		{"a failed trial that is not valid", func(h *impl.House) { h.Trials[3].Asked = 0 }},
		{"a trial that is proved", func(h *impl.House) { h.Trials[0] = trial(1, 3, 1) }},
		{"a trial that failed", func(h *impl.House) { h.Trials[0] = trial(1, 0, 2) }},
		{"a trial that is open", func(h *impl.House) { h.Trials[2] = trial(4, 2, 0) }},

		{"no chain", func(h *impl.House) { h.Chain = nil }},
		{"a chain that is not valid", func(h *impl.House) { h.Chain[3].Seal++ }},
		{"a chain without the last travel", func(h *impl.House) { h.Chain = h.Chain[:6] }},
		{"a chain without the owner", func(h *impl.House) { h.Chain = sealed(slices.Delete(h.Chain, 5, 6)...) }},
		{"a thing in the house that is no find", func(h *impl.House) { h.Chain = sealed(append(h.Chain, hand(92, impl.HdHouse, 3, 60))...) }},
		{"a thing that leaves its slot behind", func(h *impl.House) { h.Chain = sealed(append(h.Chain, hand(2, impl.HdHouse, 5, 60))...) }},
		{"a thing that comes back without a slot", func(h *impl.House) { h.Chain = sealed(append(h.Chain, hand(8, impl.HdHouse, 3, 60))...) }},

		{"a book that is not valid", func(h *impl.House) { h.Book[0].Cents = 0 }},
		{"a find later than now", func(h *impl.House) { h.Finds[0].At = 61 }},
		{"a claim later than now", func(h *impl.House) { h.Claims[0].At = 61 }},
		{"a hand later than now", func(h *impl.House) { h.Chain[8].At = 61; h.Chain = sealed(h.Chain...) }},
		{"an entry later than now", func(h *impl.House) { h.Book[1].At = 61 }},
		{"an hour that is over", func(h *impl.House) { h.Now = 59 }},
		{"an hour below 0", func(h *impl.House) { h.Now = -1 }},
		{"an hour behind MaxHour", func(h *impl.House) { h.Now = impl.MaxHour + 1 }},
		{"the last hour of all", func(h *impl.House) { h.Now = math.MaxInt }},
	}
	return l
}

func invalidHouses() []impl.House {
	l := []impl.House{{}, {Slots: emptyHouse().Slots}}
	for _, c := range badChanges() {
		h := fullHouse()
		c.apply(&h)
		l = append(l, h)
	}
	return l
}

// goodChanges keep a house valid.
func goodChanges() []change {
	return []change{
		{"nothing", func(h *impl.House) {}},
		{"a later hour", func(h *impl.House) { h.Now = impl.MaxHour }},
		{"slots of other sizes", func(h *impl.House) { h.Slots[0].Size, h.Slots[1].Size = 1, 50 }},
		{"another slot", func(h *impl.House) { h.Slots[0].Thing, h.Slots[3].Thing = 0, 4 }},
		{"no empty slots", func(h *impl.House) { h.Slots = []impl.Slot{h.Slots[0], h.Slots[2]} }},
		{"other marks", func(h *impl.House) { h.Secrets[1] = markedSecret(4, 1000000) }},
		{"no book", func(h *impl.House) { h.Book = nil }},
		{"everything at the last moment", func(h *impl.House) {
			h.Finds[0].At, h.Claims[0].At, h.Book[1].At = 60, 60, 60
		}},
		{"another open trial", func(h *impl.House) { h.Trials[0] = trial(1, 0, 1) }},
		{"a trial with more answers", func(h *impl.House) { h.Trials[3] = trial(8, 0, 100) }},
		{"two claims of the same person", func(h *impl.House) { h.Claims[2].Who = 11 }},
		{"a thing that was never here", func(h *impl.House) { h.Chain = sealed(append(h.Chain, hand(92, impl.HdHouse, 4, 60))...) }},
		{"a find that never was in a house", func(h *impl.House) {
			h.Finds, h.Secrets = append(h.Finds, findOf(91, 1, 0)), append(h.Secrets, markedSecret(91, 0))
		}},
		{"a find without a hand", func(h *impl.House) {
			h.Finds, h.Secrets = append(h.Finds, findOf(95, 1, 0)), append(h.Secrets, markedSecret(95, 0))
		}},
	}
}

func someHouses() []impl.House {
	l := []impl.House{emptyHouse(), {No: 1}, {No: 9, Now: impl.MaxHour}, {No: 5, Slots: slotsFrom(1, 30)}}
	for _, c := range goodChanges() {
		h := fullHouse()
		c.apply(&h)
		l = append(l, h)
	}
	return l
}

func TestIsHouse(t *testing.T) {
	for _, h := range someHouses() {
		arg, unchanged := guardedHouse(h)
		checkValue(t, impl.IsHouse(arg), true, "IsHouse(%+v)", h)
		unchanged(t)
	}
	for _, c := range badChanges() {
		h := fullHouse()
		c.apply(&h)
		arg, unchanged := guardedHouse(h)
		checkValue(t, impl.IsHouse(arg), false, "IsHouse with %s", c.name)
		unchanged(t)
	}
	checkValue(t, impl.IsHouse(impl.House{}), false, "IsHouse of the zero House")
	for _, now := range []int{-1, -2, math.MinInt, 100001, math.MaxInt} {
		checkValue(t, impl.IsHouse(impl.House{No: 1, Now: now}), false, "IsHouse of an empty one at %d", now)
	}
	for _, now := range []int{0, 1, 99999, 100000} {
		checkValue(t, impl.IsHouse(impl.House{No: 1, Now: now}), true, "IsHouse of an empty one at %d", now)
	}
	for no := -1; no <= 11; no++ {
		checkValue(t, impl.IsHouse(impl.House{No: no}), no >= 1 && no <= 9, "IsHouse with the number %d", no)
	}
}

func TestHousesWithInvalidLists(t *testing.T) {
	for _, l := range invalidFindLists() {
		h := impl.House{No: 1, Finds: l, Now: impl.MaxHour}
		for _, f := range l {
			h.Secrets = append(h.Secrets, markedSecret(f.Thing.Id, 5))
		}
		checkValue(t, impl.IsHouse(h), false, "IsHouse with the finds %+v", l)
	}
	for _, l := range invalidSlots() {
		checkValue(t, impl.IsHouse(impl.House{No: 1, Slots: l}), false, "IsHouse with the slots %v", l)
	}
	for _, l := range invalidBooks() {
		checkValue(t, impl.IsHouse(impl.House{No: 1, Book: l, Now: impl.MaxHour}), false, "IsHouse with the book %v", l)
	}
	for _, l := range invalidChains() {
		checkValue(t, impl.IsHouse(impl.House{No: 9, Chain: l, Now: impl.MaxHour}), false, "IsHouse with the chain %v", l)
	}
	for _, x := range invalidSecrets() {
		if x.Thing != 7 {
			continue
		}
		h := fullHouse()
		h.Secrets[1] = x
		h.Secrets[1].Thing = 4
		checkValue(t, impl.IsHouse(h), false, "IsHouse with the secret %v", x)
	}
}

func TestNewHouse(t *testing.T) {
	for no := -1; no <= 11; no++ {
		for _, l := range append(someSlots(), invalidSlots()...) {
			want := impl.House{}
			isEmpty := !slices.ContainsFunc(l, func(s impl.Slot) bool { return s.Thing != 0 })
			wantOk := no >= 1 && no <= 9 && impl.AreSlots(l) && isEmpty
			if wantOk {
				want = impl.House{No: no, Slots: l}
			}
			wantText := houseText(want)
			arg, unchanged := guarded(l, slot(88, 50, 0))
			got, ok := impl.NewHouse(no, arg)
			checkValue(t, houseText(got), wantText, "NewHouse(%d, %v)", no, l)
			checkValue(t, ok, wantOk, "NewHouse(%d, %v)", no, l)
			checkValue(t, impl.IsHouse(got), ok, "IsHouse of NewHouse(%d, %v)", no, l)
			overwriteHouse(got)
			unchanged(t)
		}
	}
	for _, no := range []int{math.MinInt, math.MaxInt} {
		_, ok := impl.NewHouse(no, nil)
		checkValue(t, ok, false, "NewHouse(%d, nil)", no)
	}
}

func TestAHouseShowsJustWhatIsInItsSlots(t *testing.T) {
	for _, h := range append(someHouses(), invalidHouses()...) {
		var want []int
		for _, f := range h.Finds {
			for _, s := range h.Slots {
				if s.Thing == f.Thing.Id {
					want = append(want, f.Thing.Id)
					break
				}
			}
		}
		arg, unchanged := guardedHouse(h)
		checkList(t, impl.Shown(arg), want, "Shown(%+v)", h)
		unchanged(t)
		if impl.IsHouse(h) {
			var things []int
			for _, s := range h.Slots {
				if s.Thing != 0 {
					things = append(things, s.Thing)
				}
			}
			slices.Sort(things)
			checkList(t, impl.Shown(h), things, "Shown(%+v)", h)
			checkList(t, impl.Shown(h), impl.InHouse(h.Chain, h.No), "Shown(%+v)", h)
		}
	}
	// What is empty has no thing with the Id 0, and a slot with the Id 0 is a slot, too.
	odd := impl.House{Finds: []impl.Find{findOf(9, 1, 1), {}, findOf(4, 1, 1), findOf(-3, 1, 1), findOf(5, 1, 1)}, Slots: []impl.Slot{slot(0, 1, 4), slot(2, 2, 0), slot(2, 3, 9), slot(-8, 3, -3), slot(7, 7, 7)}}
	checkList(t, impl.Shown(odd), []int{9, 4, -3}, "Shown")
}

func TestHousesWhoseSlotsAreFull(t *testing.T) {
	h := impl.House{No: 1}
	for i := range 20 {
		h.Finds = append(h.Finds, findOf(i+1, 1, 0))
		h.Secrets = append(h.Secrets, markedSecret(i+1, 0))
		h.Slots = append(h.Slots, slot(i+1, 5, 20-i))
		h.Chain = append(h.Chain, hand(i+1, impl.HdHouse, 1, 0))
	}
	h.Chain = sealed(h.Chain...)
	checkValue(t, impl.IsHouse(h), true, "IsHouse of a full one")
	checkValue(t, impl.FreeSlots(h.Slots), 0, "FreeSlots of a full one")
	checkList(t, impl.Shown(h), []int{1, 2, 3, 4, 5, 6, 7, 8, 9, 10, 11, 12, 13, 14, 15, 16, 17, 18, 19, 20}, "Shown of a full one")
	h.Slots[7].Thing = 0
	checkValue(t, impl.IsHouse(h), false, "IsHouse of a full one without a thing")
	checkValue(t, len(impl.Shown(h)), 19, "the number of things in a full one without a thing")
}

func TestTrialOf(t *testing.T) {
	for _, h := range append(someHouses(), invalidHouses()...) {
		for _, id := range []int{math.MinInt, -1, 0, 1, 2, 3, 4, 5, 8, 9, 998, 999, 1000, math.MaxInt} {
			want, wantOk := impl.Trial{}, false
			if at := slices.IndexFunc(h.Trials, func(x impl.Trial) bool { return x.Claim == id }); at >= 0 {
				want, wantOk = h.Trials[at], true
			}
			arg, unchanged := guardedHouse(h)
			got, ok := impl.TrialOf(arg, id)
			checkValue(t, got, want, "TrialOf(%+v, %d)", h, id)
			checkValue(t, ok, wantOk, "TrialOf(%+v, %d)", h, id)
			unchanged(t)
		}
	}
	got, ok := impl.TrialOf(impl.House{Trials: []impl.Trial{trial(4, 1, 0), trial(2, 2, 0), trial(2, 3, 0)}}, 2)
	checkValue(t, got, trial(2, 2, 0), "TrialOf the first one of several")
	checkValue(t, ok, true, "TrialOf the first one of several")
}

func TestEqualHouses(t *testing.T) {
	all := append(someHouses(), invalidHouses()...)
	for _, a := range all {
		argA, sameA := guardedHouse(a)
		for _, b := range all {
			checkValue(t, impl.EqualHouses(argA, b), houseText(a) == houseText(b), "EqualHouses(%+v, %+v)", a, b)
		}
		sameA(t)
	}
	empty := impl.House{No: 1, Finds: []impl.Find{}, Secrets: []impl.Secret{}, Slots: []impl.Slot{}, Claims: []impl.Claim{}, Trials: []impl.Trial{}, Chain: []impl.Hand{}, Book: []impl.Entry{}}
	checkValue(t, impl.EqualHouses(empty, impl.House{No: 1}), true, "EqualHouses of nil and empty lists")
}

func TestEqualHousesByField(t *testing.T) {
	for _, c := range []change{
		{"No", func(h *impl.House) { h.No++ }},
		{"Finds", func(h *impl.House) { h.Finds[3].Finder++ }},
		{"Secrets", func(h *impl.House) { h.Secrets[3].Salt++ }},
		{"the marks of Secrets", func(h *impl.House) { h.Secrets[0].Marks[2].Answer++ }},
		{"Slots", func(h *impl.House) { h.Slots[3].Size-- }},
		{"Claims", func(h *impl.House) { h.Claims[4].At++ }},
		{"Trials", func(h *impl.House) { h.Trials[4].Right++ }},
		{"Chain", func(h *impl.House) { h.Chain[8].Seal++ }},
		{"Book", func(h *impl.House) { h.Book[1].Cents++ }},
		{"Now", func(h *impl.House) { h.Now++ }},
		{"the length of Finds", func(h *impl.House) { h.Finds = h.Finds[:3] }},
		{"the length of Secrets", func(h *impl.House) { h.Secrets = h.Secrets[:3] }},
		{"the length of Slots", func(h *impl.House) { h.Slots = h.Slots[:3] }},
		{"the length of Claims", func(h *impl.House) { h.Claims = h.Claims[:4] }},
		{"the length of Trials", func(h *impl.House) { h.Trials = h.Trials[:4] }},
		{"the length of Chain", func(h *impl.House) { h.Chain = h.Chain[:8] }},
		{"the length of Book", func(h *impl.House) { h.Book = h.Book[:1] }},
	} {
		h := fullHouse()
		c.apply(&h)
		checkValue(t, impl.EqualHouses(h, fullHouse()), false, "EqualHouses that differ in %s", c.name)
		checkValue(t, impl.EqualHouses(fullHouse(), h), false, "EqualHouses that differ in %s", c.name)
	}
	checkValue(t, impl.EqualHouses(fullHouse(), fullHouse()), true, "EqualHouses of the same")
}
