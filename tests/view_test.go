package tests

import (
	"fmt"
	"math"
	"strings"
	"testing"

	"loop.example/g03007/impl"
)

// wantView joins the items by spaces.
func wantView(items []string) string {
	if len(items) == 0 {
		return "-"
	}
	return strings.Join(items, " ")
}

func TestFormatNumbers(t *testing.T) {
	long := make([]int, 300)
	for i := range long {
		long[i] = i*i - 500
	}
	for _, l := range append(someLists, []int{3, -1}, []int{-1}, []int{math.MinInt, 0, math.MaxInt}, long) {
		var items []string
		for _, n := range l {
			items = append(items, fmt.Sprint(n))
		}
		arg, unchanged := guarded(l, 5)
		checkValue(t, impl.FormatNumbers(arg), wantView(items), "FormatNumbers(%v)", l)
		unchanged(t)
	}
}

func TestFormatCents(t *testing.T) {
	for n, want := range map[int]string{
		0: "0.00", 1: "0.01", 5: "0.05", 9: "0.09", 10: "0.10", 11: "0.11", 99: "0.99", 100: "1.00", 101: "1.01", 110: "1.10", 12345: "123.45", 999999999: "9999999.99", 1000000000: "10000000.00",
		1000000001: "", 1000000002: "", math.MaxInt: "",
	} {
		checkValue(t, impl.FormatCents(n), want, "FormatCents(%d)", n)
	}
	for n := range 100000 {
		checkValue(t, impl.FormatCents(n), fmt.Sprintf("%d.%02d", n/100, n%100), "FormatCents(%d)", n)
	}
}

func TestCentsBelowZero(t *testing.T) {
	for n, want := range map[int]string{
		-1: "-0.01", -5: "-0.05", -10: "-0.10", -99: "-0.99", -100: "-1.00", -101: "-1.01", -12340: "-123.40", -999999999: "-9999999.99", -1000000000: "-10000000.00",
		-1000000001: "", -1000000002: "", math.MinInt: "", math.MinInt + 1: "",
	} {
		checkValue(t, impl.FormatCents(n), want, "FormatCents(%d)", n)
	}
	for n := 1; n < 100000; n++ {
		checkValue(t, impl.FormatCents(-n), fmt.Sprintf("-%d.%02d", n/100, n%100), "FormatCents(%d)", -n)
	}
}

func TestFormatSlots(t *testing.T) {
	for _, l := range append(append(someSlots(), invalidSlots()...), fullHouse().Slots) {
		var items []string
		for _, s := range l {
			item := fmt.Sprintf("%d:%d", s.Id, s.Thing)
			if s.Thing == 0 {
				item = fmt.Sprintf("%d:.", s.Id)
			}
			items = append(items, item)
		}
		arg, unchanged := guarded(l, slot(88, 50, 0))
		checkValue(t, impl.FormatSlots(arg), wantView(items), "FormatSlots(%v)", l)
		unchanged(t)
	}
	checkValue(t, impl.FormatSlots([]impl.Slot{slot(1, 5, 2), slot(2, 10, 0), slot(30, 10, 999)}), "1:2 2:. 30:999", "FormatSlots")
}

func TestFormatClaims(t *testing.T) {
	letters := map[int]string{0: "o", 1: "p", 2: "f", 3: "s"}
	for _, l := range append(append(someClaimLists(), invalidClaims()...), fullHouse().Claims, claimsFrom(1, 20)) {
		var items []string
		for _, x := range l {
			letter := letters[x.State]
			if letter == "" {
				letter = "?"
			}
			items = append(items, fmt.Sprintf("%d:%d>%d%s", x.Id, x.Who, x.Thing, letter))
		}
		arg, unchanged := guarded(l, impl.Claim{})
		checkValue(t, impl.FormatClaims(arg), wantView(items), "FormatClaims(%+v)", l)
		unchanged(t)
	}
	checkValue(t, impl.FormatClaims(fullHouse().Claims), "1:11>2o 3:12>6s 4:13>2p 8:14>6f 999:15>8o", "FormatClaims")
	for _, state := range []int{-1, 4, 5, 256, 259, math.MinInt, math.MaxInt} {
		checkValue(t, impl.FormatClaims([]impl.Claim{claim(1, 2, 3, 4, state)}), "1:2>3?", "FormatClaims of the state %d", state)
	}
}

func TestFormatHits(t *testing.T) {
	for _, l := range [][]impl.Hit{nil, {}, {{}}, {{House: 1, Thing: 2}}, {{House: 1, Thing: 2}, {House: 4, Thing: 8}, {House: 1, Thing: 2}}, {{House: -9, Thing: math.MinInt}, {House: math.MaxInt, Thing: 0}}} {
		var items []string
		for _, x := range l {
			items = append(items, fmt.Sprintf("%d/%d", x.House, x.Thing))
		}
		arg, unchanged := guarded(l, impl.Hit{})
		checkValue(t, impl.FormatHits(arg), wantView(items), "FormatHits(%v)", l)
		unchanged(t)
	}
	checkValue(t, impl.FormatHits(impl.AllHits(bagReport(7), neighbours())), "1/2 4/8 5/7 1/2 1/3 9/999", "FormatHits of AllHits")
}

func TestFormatHouse(t *testing.T) {
	for _, h := range append(someHouses(), invalidHouses()...) {
		arg, unchanged := guardedHouse(h)
		want := fmt.Sprintf("%d %d %d %d %d %d", h.No, h.Now, len(h.Finds), len(h.Claims), len(h.Chain), len(h.Book))
		checkValue(t, impl.FormatHouse(arg), want, "FormatHouse(%+v)", h)
		unchanged(t)
	}
	checkValue(t, impl.FormatHouse(fullHouse()), "3 60 4 5 9 2", "FormatHouse")
	checkValue(t, impl.FormatHouse(impl.House{}), "0 0 0 0 0 0", "FormatHouse of the zero House")
}

func TestViewsShowWhatThereIs(t *testing.T) {
	// As many items are shown as there are, and what is no longer there is not shown.
	h := fullHouse()
	for count := range len(h.Slots) + 1 {
		shown := strings.Fields(impl.FormatSlots(h.Slots[:count]))
		checkValue(t, len(shown), max(count, 1), "the number of items of FormatSlots")
	}
	served, ok := impl.StepServe(h, 2)
	checkValue(t, ok, true, "StepServe")
	checkValue(t, impl.FormatSlots(h.Slots), "1:4 2:. 5:2 99:.", "FormatSlots")
	checkValue(t, impl.FormatSlots(served.Slots), "1:4 2:. 5:. 99:.", "FormatSlots behind StepServe")
	checkValue(t, impl.FormatClaims(served.Claims), "1:11>2o 3:12>6s 4:13>2s 8:14>6f 999:15>8o", "FormatClaims behind StepServe")
	checkValue(t, impl.FormatHouse(served), "3 60 4 5 10 3", "FormatHouse behind StepServe")
	checkValue(t, impl.FormatCents(impl.Balance(served.Book, 13)), "-0.90", "FormatCents behind StepServe")
}
