package tests

import (
	"math"
	"slices"
	"testing"

	"loop.example/g03007/impl"
)

// wantHints has the hints of all things that a report may be about, in ascending order and each once.
func wantHints(r impl.Report, salt int) []int {
	var l []int
	for colour := range 8 {
		for size := r.SizeLow; size <= r.SizeHigh; size++ {
			if len(r.Colours) == 0 || slices.Contains(r.Colours, colour) {
				l = append(l, wantHash(salt, r.Kind, colour, size/10))
			}
		}
	}
	slices.Sort(l)
	return slices.Compact(l)
}

// hintReports has sizes on both sides of each ten.
func hintReports() []impl.Report {
	var l []impl.Report
	for _, colours := range [][]int{nil, {}, {0}, {7}, {2, 3}, everyColour} {
		for _, sizes := range [][2]int{{1, 1}, {1, 9}, {1, 10}, {9, 10}, {10, 10}, {10, 19}, {19, 20}, {15, 31}, {49, 50}, {50, 50}, {40, 49}, {1, 50}} {
			r := bagReport(7)
			r.Colours, r.SizeLow, r.SizeHigh = colours, sizes[0], sizes[1]
			l = append(l, r)
		}
	}
	return l
}

func TestHintOf(t *testing.T) {
	things := append(invalidThings(), umbrella, leastThing, greatestThing)
	for size := -21; size <= 70; size++ {
		things = append(things, sized(2, size))
	}
	for _, salt := range someSalts {
		for _, x := range things {
			checkValue(t, impl.HintOf(x, salt), wantHash(salt, x.Kind, x.Colour, x.Size/10), "HintOf(%+v, %d)", x, salt)
		}
	}
}

func TestAHintTellsOnlyRoughly(t *testing.T) {
	x := impl.Thing{Id: 2, Kind: 1, Colour: 3, Size: 14, Worth: 900}
	for _, size := range []int{10, 11, 18, 19} {
		same := impl.Thing{Id: 9, Kind: 1, Colour: 3, Size: size, Worth: 5}
		checkValue(t, impl.HintOf(same, 5), impl.HintOf(x, 5), "HintOf(%+v, 5)", same)
	}
	for _, other := range []impl.Thing{{Id: 2, Kind: 2, Colour: 3, Size: 14}, {Id: 2, Kind: 1, Colour: 4, Size: 14}, {Id: 2, Kind: 1, Colour: 3, Size: 9}, {Id: 2, Kind: 1, Colour: 3, Size: 20}} {
		if impl.HintOf(other, 5) == impl.HintOf(x, 5) {
			t.Errorf("%+v has the hint of %+v", other, x)
		}
	}
}

func TestHintsOf(t *testing.T) {
	finds := findsFrom(1, 20)
	for i := range finds {
		finds[i].Thing.Kind, finds[i].Thing.Colour, finds[i].Thing.Size = i%3+1, i%2, i%4*5+1
	}
	for _, salt := range someSalts {
		for count := range 21 {
			var want []int
			for _, f := range finds[:count] {
				want = append(want, wantHash(salt, f.Thing.Kind, f.Thing.Colour, f.Thing.Size/10))
			}
			slices.Sort(want)
			arg, unchanged := guarded(finds[:count], leastFind)
			checkList(t, impl.HintsOf(arg, salt), slices.Compact(want), "HintsOf(%+v, %d)", arg, salt)
			unchanged(t)
		}
	}
	a, b := findOf(2, 5, 40), findOf(4, 5, 40)
	checkList(t, impl.HintsOf([]impl.Find{a, b}, 5), []int{wantHash(5, 1, 3, 0)}, "HintsOf two things that are alike")
	for _, l := range [][]impl.Find{{b, a}, {a, a}, findsFrom(1, 21), findsFrom(0, 2), {{}}, {a, {}}} {
		checkList(t, impl.HintsOf(l, 5), nil, "HintsOf(%+v, 5)", l)
	}
	for _, f := range invalidFinds() {
		checkList(t, impl.HintsOf([]impl.Find{f}, 5), nil, "HintsOf(%+v, 5)", f)
	}
}

func TestHintsFor(t *testing.T) {
	for _, salt := range someSalts {
		for _, r := range hintReports() {
			arg, unchanged := guardedReport(r)
			checkList(t, impl.HintsFor(arg, salt), wantHints(r, salt), "HintsFor(%+v, %d)", r, salt)
			unchanged(t)
		}
	}
	checkValue(t, len(impl.HintsFor(vagueReport(7), 5)), 48, "the number of hints for a vague report")
	for _, r := range invalidReports() {
		checkList(t, impl.HintsFor(r, 5), nil, "HintsFor(%+v, 5)", r)
	}
}

func TestSharedHints(t *testing.T) {
	for _, c := range []struct {
		a, b []int
		want int
	}{
		{nil, nil, 0}, {nil, []int{3}, 0}, {[]int{3}, []int{3}, 1}, {[]int{3, 3, 4}, []int{3, 5}, 1}, {[]int{3, 4, 3, 4}, []int{4, 4, 3}, 2},
		{[]int{1, 2, 3}, []int{4, 5, 6}, 0}, {[]int{0, -1, math.MaxInt, math.MinInt}, []int{math.MinInt, 0, 7, math.MaxInt}, 3}, {[]int{5, 1, 9}, []int{9, 5, 1, 5}, 3},
	} {
		for _, pair := range [][2][]int{{c.a, c.b}, {c.b, c.a}} {
			a, sameA := guarded(pair[0], 3)
			b, sameB := guarded(pair[1], 3)
			checkValue(t, impl.SharedHints(a, b), c.want, "SharedHints(%v, %v)", a, b)
			sameA(t)
			sameB(t)
		}
	}
}

func TestHintsNeverMissAThing(t *testing.T) {
	finds := slices.DeleteFunc(someFinds(), func(f impl.Find) bool { return f.At != 25 && f.At != 19 })
	for _, f := range findsToRemember() {
		for _, d := range someDoubts() {
			r, _ := impl.Remember(f, d, 8)
			for _, salt := range []int{0, 5, -7} {
				checkValue(t, impl.MayHave(r, impl.HintsOf([]impl.Find{f}, salt), salt), true, "MayHave(%+v, the hints of %+v, %d)", r, f, salt)
			}
		}
	}
	for _, r := range append(someReports(), hintReports()...) {
		for _, f := range finds {
			hints := impl.HintsOf([]impl.Find{f}, 5)
			if impl.CanBe(r, f) && !impl.MayHave(r, hints, 5) {
				t.Errorf("the hints of %+v miss %+v", r, f)
			}
		}
	}
}

func TestMayHave(t *testing.T) {
	for _, r := range hintReports() {
		for size := 1; size <= 50; size++ {
			for colour := range 8 {
				hint := wantHash(5, impl.KdBag, colour, size/10)
				want := slices.Contains(wantHints(r, 5), hint)
				hints, unchanged := guarded([]int{-1, hint, 0}, wantHints(r, 5)[0])
				checkValue(t, impl.MayHave(r, hints, 5), want, "MayHave(%+v, the hint of colour %d and size %d)", r, colour, size)
				unchanged(t)
			}
		}
		checkValue(t, impl.MayHave(r, nil, 5), false, "MayHave(%+v, no hints)", r)
		checkValue(t, impl.MayHave(r, wantHints(r, 5), 5), true, "MayHave(%+v, all hints)", r)
	}
	coat := bagReport(7)
	coat.Kind = impl.KdCoat
	checkValue(t, impl.MayHave(coat, wantHints(bagReport(7), 5), 5), false, "MayHave of another kind")
	for _, r := range invalidReports() {
		checkValue(t, impl.MayHave(r, wantHints(vagueReport(7), 5), 5), false, "MayHave(%+v, ..)", r)
	}
}

func TestHintsOfAnotherSalt(t *testing.T) {
	for _, salt := range []int{0, 1, 5, 6, -5, 1000000} {
		for _, other := range []int{0, 1, 5, 6, -5, 1000000, impl.Modulus + 5} {
			hints := impl.HintsOf([]impl.Find{findOf(2, 5, 40)}, other)
			// A salt is taken modulo Modulus by Hash.
			want := (salt-other)%impl.Modulus == 0
			checkValue(t, impl.MayHave(bagReport(7), hints, salt), want, "MayHave with the salt %d and hints of the salt %d", salt, other)
			checkValue(t, len(impl.AskHouses(bagReport(7), [][]int{hints}, salt)) == 1, want, "AskHouses with the salt %d and hints of the salt %d", salt, other)
		}
	}
}

func TestAskHouses(t *testing.T) {
	r := bagReport(7)
	hit := impl.HintsOf([]impl.Find{findOf(2, 5, 40)}, 5)
	coat := findOf(4, 5, 40)
	coat.Thing.Kind = impl.KdCoat
	miss := impl.HintsOf([]impl.Find{coat}, 5)
	both := slices.Concat(miss, hit)
	for _, c := range []struct {
		houses [][]int
		want   []int
	}{
		{nil, nil}, {[][]int{nil}, nil}, {[][]int{hit}, []int{0}}, {[][]int{miss}, nil}, {[][]int{nil, hit, miss, both}, []int{1, 3}}, {[][]int{hit, hit, nil, hit}, []int{0, 1, 3}},
	} {
		var args [][]int
		var checks []func(t *testing.T)
		for _, hints := range c.houses {
			arg, unchanged := guarded(hints, hit[0])
			args, checks = append(args, arg), append(checks, unchanged)
		}
		checkList(t, impl.AskHouses(r, args, 5), c.want, "AskHouses(.., %v, 5)", c.houses)
		checkList(t, impl.AskHouses(r, args, 6), nil, "AskHouses(.., %v, 6)", c.houses)
		checkList(t, impl.AskHouses(impl.Report{}, args, 5), nil, "AskHouses of no report")
		for _, check := range checks {
			check(t)
		}
	}
}
