package tests

import (
	"math"
	"slices"
	"strconv"
	"strings"
	"testing"

	"loop.example/g03007/impl"
)

var (
	umbrella      = impl.Thing{Id: 7, Kind: impl.KdUmbrella, Colour: 5, Size: 9, Worth: 1200}
	leastThing    = impl.Thing{Id: 1, Kind: impl.KdBag, Colour: 0, Size: 1, Worth: 0}
	greatestThing = impl.Thing{Id: 999, Kind: impl.KdOther, Colour: impl.MaxColour, Size: impl.MaxSize, Worth: 10000000}
)

var thingFields = []field[impl.Thing]{
	{1, 999, func(x *impl.Thing, n int) { x.Id = n }},
	{1, 8, func(x *impl.Thing, n int) { x.Kind = n }},
	{0, 7, func(x *impl.Thing, n int) { x.Colour = n }},
	{1, 50, func(x *impl.Thing, n int) { x.Size = n }},
	{0, 10000000, func(x *impl.Thing, n int) { x.Worth = n }},
}

// invalidThings returns all that come from a valid thing by moving one field beyond its limits.
func invalidThings() []impl.Thing {
	l := []impl.Thing{{}}
	for _, x := range []impl.Thing{umbrella, leastThing, greatestThing} {
		l = append(l, beyondLimits(x, thingFields)...)
	}
	return l
}

func TestThingConstants(t *testing.T) {
	kinds := []int{impl.KdBag, impl.KdCoat, impl.KdKeys, impl.KdMoney, impl.KdPhone, impl.KdUmbrella, impl.KdFood, impl.KdOther}
	if !slices.Equal(kinds, []int{1, 2, 3, 4, 5, 6, 7, 8}) || impl.MaxColour != 7 || impl.MaxSize != 50 {
		t.Error(kinds, impl.MaxColour, impl.MaxSize)
	}
}

func TestIsThingAtTheLimits(t *testing.T) {
	for _, x := range []impl.Thing{umbrella, leastThing, greatestThing} {
		for _, y := range atLimits(x, thingFields) {
			if !impl.IsThing(y) {
				t.Errorf("%+v is not valid", y)
			}
		}
	}
	for _, x := range invalidThings() {
		if impl.IsThing(x) {
			t.Errorf("%+v is valid", x)
		}
	}
}

var kindTexts = []string{"", "bag", "coat", "keys", "money", "phone", "umbrella", "food", "other"}

var colourTexts = []string{"black", "white", "red", "green", "blue", "yellow", "brown", "grey"}

func checkNames(t *testing.T, textOf func(int) string, want []string) {
	t.Helper()
	for n := -20; n <= 300; n++ {
		text := ""
		if n >= 0 && n < len(want) {
			text = want[n]
		}
		if got := textOf(n); got != text {
			t.Errorf("the text of %d is %q, want %q", n, got, text)
		}
	}
	for _, n := range []int{math.MinInt, math.MaxInt, -impl.MaxValue, impl.MaxValue, 1 << 32, 1<<32 + 1} {
		if got := textOf(n); got != "" {
			t.Errorf("the text of %d is %q", n, got)
		}
	}
}

func TestKindText(t *testing.T) {
	checkNames(t, impl.KindText, kindTexts)
}

func TestColourText(t *testing.T) {
	checkNames(t, impl.ColourText, colourTexts)
}

func TestThingTextExamples(t *testing.T) {
	for want, x := range map[string]impl.Thing{
		"7 yellow umbrella 9": umbrella,
		"1 black bag 1":       leastThing,
		"999 grey other 50":   greatestThing,
		"10 red money 20":     {Id: 10, Kind: impl.KdMoney, Colour: 2, Size: 20, Worth: 5},
		"100 white keys 10":   {Id: 100, Kind: impl.KdKeys, Colour: 1, Size: 10, Worth: 10000000},
	} {
		if got := impl.ThingText(x); got != want {
			t.Errorf("ThingText(%+v) = %q, want %q", x, got, want)
		}
	}
	for _, x := range invalidThings() {
		if got := impl.ThingText(x); got != "" {
			t.Errorf("ThingText(%+v) = %q", x, got)
		}
	}
}

func TestEveryValidThingHasAText(t *testing.T) {
	for kind := 1; kind <= 8; kind++ {
		for colour := 0; colour <= impl.MaxColour; colour++ {
			for size := 1; size <= impl.MaxSize; size++ {
				for _, id := range []int{1, 9, 10, 99, 100, 998, 999} {
					x := impl.Thing{Id: id, Kind: kind, Colour: colour, Size: size, Worth: id * size}
					want := strings.Join([]string{strconv.Itoa(id), colourTexts[colour], kindTexts[kind], strconv.Itoa(size)}, " ")
					if got := impl.ThingText(x); got != want {
						t.Errorf("ThingText(%+v) = %q, want %q", x, got, want)
					}
				}
			}
		}
	}
}

func TestSameKind(t *testing.T) {
	for a := 1; a <= 8; a++ {
		for b := 1; b <= 8; b++ {
			x, y := umbrella, greatestThing
			x.Kind, y.Kind = a, b
			if got := impl.SameKind(x, y); got != (a == b) {
				t.Errorf("SameKind of kinds %d and %d = %v", a, b, got)
			}
		}
	}
	if !impl.SameKind(umbrella, umbrella) {
		t.Error("a thing is not of its own kind")
	}
	for _, x := range invalidThings() {
		y := umbrella
		y.Kind = x.Kind
		if impl.SameKind(x, y) || impl.SameKind(y, x) || impl.SameKind(x, x) {
			t.Errorf("%+v is of a kind", x)
		}
	}
}

func thingsFrom(id int, count int) []impl.Thing {
	var l []impl.Thing
	for i := range count {
		x := greatestThing
		x.Id = id + i
		l = append(l, x)
	}
	return l
}

func TestAreThings(t *testing.T) {
	apart := thingsFrom(5, 3)
	apart[0].Id, apart[2].Id = 1, 999
	for _, l := range [][]impl.Thing{nil, {}, {leastThing}, {greatestThing}, {leastThing, umbrella, greatestThing}, apart, thingsFrom(1, 2), thingsFrom(1, 19), thingsFrom(1, 20), thingsFrom(980, 20)} {
		arg, unchanged := guarded(l, leastThing)
		if !impl.AreThings(arg) {
			t.Errorf("%d things are not valid: %+v", len(l), l)
		}
		unchanged(t)
	}
}

func TestAreThingsRejects(t *testing.T) {
	for _, l := range [][]impl.Thing{
		thingsFrom(1, 21), thingsFrom(1, 22), thingsFrom(979, 21), thingsFrom(1, 999),
		thingsFrom(0, 3), thingsFrom(998, 3), thingsFrom(-3, 3),
		{umbrella, leastThing}, {greatestThing, umbrella}, {umbrella, umbrella}, {leastThing, umbrella, umbrella}, {leastThing, greatestThing, umbrella}, {umbrella, leastThing, greatestThing},
		{{}}, {{}, umbrella},
	} {
		if impl.AreThings(l) {
			t.Errorf("%d things are valid: %+v", len(l), l)
		}
	}
	other := umbrella
	other.Colour, other.Size = 1, 2
	if impl.AreThings([]impl.Thing{umbrella, other}) {
		t.Error("two things have one Id")
	}
	for _, x := range invalidThings() {
		for at := range 3 {
			l := thingsFrom(100, 3)
			if impl.IsThing(impl.Thing{Id: x.Id, Kind: 1, Size: 1}) {
				x.Id = l[at].Id
			}
			l[at] = x
			if impl.AreThings(l) || impl.AreThings([]impl.Thing{x}) {
				t.Errorf("%+v is valid at %d", x, at)
			}
		}
	}
}
