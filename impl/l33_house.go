package impl

import (
	"errors"
	"slices"
)

type House struct {
	No      int
	Finds   []Find
	Secrets []Secret
	Slots   []Slot
	Claims  []Claim
	Trials  []Trial
	Chain   []Hand
	Book    []Entry
	Now     int
}

func NewHouse(no int, slots []Slot) (House, bool) {
	h := House{No: no, Slots: slices.Clone(slots)}
	// Without finds no slot of a valid house has a thing.
	if !IsHouse(h) {
		return House{}, false
	}
	return h, true
}

func IsHouse(h House) bool {
	var fault houseFault
	return !errors.As(checkHouse(h), &fault)
}

func Shown(h House) []int {
	return findsInOrder(h.Finds).numbersWhere(func(f Find) bool { return h.isShown(f.Thing.Id) })
}

func TrialOf(h House, claim int) (Trial, bool) {
	at := trialsInOrder(h.Trials).indexOf(claim)
	if at < 0 {
		return Trial{}, false
	}
	return h.Trials[at], true
}

func EqualHouses(a House, b House) bool {
	return a.No == b.No && a.Now == b.Now &&
		slices.Equal(a.Finds, b.Finds) && EqualSecrets(a.Secrets, b.Secrets) &&
		slices.Equal(a.Slots, b.Slots) && slices.Equal(a.Claims, b.Claims) &&
		slices.Equal(a.Trials, b.Trials) && slices.Equal(a.Chain, b.Chain) &&
		slices.Equal(a.Book, b.Book)
}

func (h *House) isShown(thing int) bool {
	return slotWith(h.Slots, thing) >= 0
}

// copyHouse copies all lists, also those within them.
func copyHouse(h House) House {
	return House{
		No:      h.No,
		Finds:   slices.Clone(h.Finds),
		Secrets: copySecrets(h.Secrets),
		Slots:   slices.Clone(h.Slots),
		Claims:  slices.Clone(h.Claims),
		Trials:  slices.Clone(h.Trials),
		Chain:   slices.Clone(h.Chain),
		Book:    slices.Clone(h.Book),
		Now:     h.Now,
	}
}

func trialsInOrder(l []Trial) sortedList[Trial] {
	return sortedList[Trial]{items: l, numberOf: func(x Trial) int { return x.Claim }}
}

// A houseFault tells which part of a house is not valid.
type houseFault struct {
	part string
}

func (f houseFault) Error() string {
	return "not valid: " + f.part
}

// checkHouse returns nil or a houseFault.
func checkHouse(h House) error {
	for _, check := range houseChecks() {
		if !check.isHeld(h) {
			return houseFault{part: check.part}
		}
	}
	return nil
}

type houseCheck struct {
	part   string
	isHeld func(h House) bool
}

// houseChecks begins with the checks of the single lists, which limit the work of the others.
func houseChecks() []houseCheck {
	return []houseCheck{
		{"number", func(h House) bool { return isHouseNo(h.No) }},
		{"lists", hasValidLists},
		{"secrets", hasSecretsOfFinds},
		{"slots", hasSlotsOfFinds},
		{"claims", hasClaimsOfFinds},
		{"trials", hasTrialsOfClaims},
		{"hours", isUntilNow},
	}
}

func hasValidLists(h House) bool {
	return AreFinds(h.Finds) && AreSecrets(h.Secrets) && AreSlots(h.Slots) &&
		AreClaims(h.Claims) && IsChain(h.Chain) && AreEntries(h.Book)
}

func hasSecretsOfFinds(h House) bool {
	return slices.EqualFunc(h.Finds, h.Secrets, func(f Find, x Secret) bool { return f.Thing.Id == x.Thing })
}

func hasSlotsOfFinds(h House) bool {
	isOfFind := func(s Slot) bool { return s.isFree() || FindThing(h.Finds, s.Thing) >= 0 }
	return areAll(h.Slots, isOfFind) && EqualInts(Shown(h), InHouse(h.Chain, h.No))
}

func hasClaimsOfFinds(h House) bool {
	return areAll(h.Claims, func(x Claim) bool { return FindThing(h.Finds, x.Thing) >= 0 })
}

func hasTrialsOfClaims(h House) bool {
	return slices.EqualFunc(h.Claims, h.Trials, func(x Claim, y Trial) bool {
		return IsTrial(y) && y.Claim == x.Id && TrialState(MarksOf(h.Secrets, x.Thing), y) == trialStateOf(x)
	})
}

func isUntilNow(h House) bool {
	return InRange(h.Now, 0, MaxHour) &&
		areAll(h.Finds, func(x Find) bool { return x.At <= h.Now }) &&
		areAll(h.Claims, func(x Claim) bool { return x.At <= h.Now }) &&
		areAll(h.Chain, func(x Hand) bool { return x.At <= h.Now }) &&
		areAll(h.Book, func(x Entry) bool { return x.At <= h.Now })
}

// trialStateOf is the state that the trial of a claim must have.
func trialStateOf(x Claim) int {
	switch x.State {
	case ClOpen:
		return TrOpen
	case ClFailed:
		return TrFailed
	}
	return TrProved
}

func areAll[T any](l []T, isHeld func(x T) bool) bool {
	return countWhere(l, isHeld) == len(l)
}
