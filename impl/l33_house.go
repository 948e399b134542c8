package impl

type House struct {
	No      int
	Finds   []Find
	Secrets []Secret
	Slots   []Slot
	Claims  []Claim
	Trials  []Trial
	Chain   []Hand
	Book    []Entry
	Now     int
}

func NewHouse(no int, slots []Slot) (House, bool) {
	return House{}, false
}

func IsHouse(h House) bool {
	return false
}

func Shown(h House) []int {
	return []int{}
}

func TrialOf(h House, claim int) (Trial, bool) {
	return Trial{}, false
}

func EqualHouses(a House, b House) bool {
	return false
}
