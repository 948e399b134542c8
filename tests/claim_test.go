package tests

import (
	"math"
	"slices"
	"testing"

	"loop.example/g03007/impl"
)

func claim(id int, who int, thing int, at int, state int) impl.Claim {
	return impl.Claim{Id: id, Who: who, Thing: thing, At: at, State: state}
}

var claimFields = []field[impl.Claim]{
	{1, 999, func(x *impl.Claim, n int) { x.Id = n }},
	{1, 999, func(x *impl.Claim, n int) { x.Who = n }},
	{1, 999, func(x *impl.Claim, n int) { x.Thing = n }},
	{0, 100000, func(x *impl.Claim, n int) { x.At = n }},
	{0, 3, func(x *impl.Claim, n int) { x.State = n }},
}

func claimsFrom(id int, count int) []impl.Claim {
	var l []impl.Claim
	for i := range count {
		l = append(l, claim(id+i, i+1, i%3+1, 10*i, impl.ClOpen))
	}
	return l
}

func invalidClaims() [][]impl.Claim {
	l := [][]impl.Claim{
		{{}}, claimsFrom(1, 21), claimsFrom(1, 22), claimsFrom(0, 2), claimsFrom(999, 2),
		{claim(5, 1, 1, 1, 0), claim(4, 2, 2, 2, 0)}, {claim(5, 1, 1, 1, 0), claim(5, 2, 2, 2, 0)}, {claim(1, 1, 1, 1, 0), claim(3, 2, 2, 2, 0), claim(2, 3, 3, 3, 0)},
		// A thing is served twice.
		{claim(1, 1, 2, 1, 3), claim(2, 2, 2, 2, 3)}, {claim(1, 1, 2, 1, 3), claim(2, 2, 3, 2, 3), claim(3, 3, 2, 3, 3)}, {claim(1, 1, 2, 1, 3), claim(2, 1, 2, 1, 3)},
		{claim(1, 1, 2, 1, 0), claim(2, 2, 2, 2, 3), claim(3, 3, 2, 3, 1), claim(4, 4, 2, 4, 3)},
	}
	for _, bad := range beyondLimits(claim(50, 5, 6, 7, 0), claimFields) {
		l = append(l, []impl.Claim{bad}, []impl.Claim{claim(1, 1, 1, 1, 0), bad}, []impl.Claim{bad, claim(999, 1, 1, 1, 0)})
	}
	return l
}

func TestClaimConstants(t *testing.T) {
	checkList(t, []int{impl.ClOpen, impl.ClProved, impl.ClFailed, impl.ClServed}, []int{0, 1, 2, 3}, "the states")
}

func TestAreClaims(t *testing.T) {
	for _, l := range [][]impl.Claim{
		nil, {}, claimsFrom(1, 1), claimsFrom(1, 19), claimsFrom(1, 20), claimsFrom(980, 20),
		{claim(1, 1, 2, 1, 3), claim(2, 2, 3, 2, 3)}, {claim(1, 1, 2, 1, 3), claim(2, 2, 2, 2, 1), claim(3, 3, 2, 3, 2), claim(4, 4, 2, 3, 0)},
		// The same person may claim a thing twice in a list, if it was not AddClaim that made it.
		{claim(1, 1, 2, 1, 2), claim(2, 1, 2, 1, 0)},
		{claim(1, 1, 2, 1, 1), claim(2, 2, 2, 1, 1)}, {claim(1, 1, 2, 1, 2), claim(2, 2, 2, 1, 2)},
	} {
		arg, unchanged := guarded(l, claim(1, 1, 2, 1, 3))
		checkValue(t, impl.AreClaims(arg), true, "AreClaims(%+v)", l)
		unchanged(t)
	}
	for _, x := range atLimits(claim(50, 5, 6, 7, 0), claimFields) {
		checkValue(t, impl.AreClaims([]impl.Claim{x}), true, "AreClaims(%+v)", x)
	}
	for _, l := range invalidClaims() {
		checkValue(t, impl.AreClaims(l), false, "AreClaims(%+v)", l)
	}
}

func TestFindClaim(t *testing.T) {
	l := []impl.Claim{claim(4, 1, 1, 1, 0), claim(2, 1, 1, 1, 0), claim(9, 1, 1, 1, 0), claim(2, 5, 5, 5, 0), {}, claim(-3, 1, 1, 1, 0)}
	for id, want := range map[int]int{4: 0, 2: 1, 9: 2, 0: 4, -3: 5, 1: -1, 3: -1, 999: -1, math.MaxInt: -1, math.MinInt: -1} {
		arg, unchanged := guarded(l, claim(id, 1, 1, 1, 0))
		checkValue(t, impl.FindClaim(arg, id), want, "FindClaim(%d)", id)
		unchanged(t)
	}
	checkValue(t, impl.FindClaim(nil, 0), -1, "FindClaim in no claims")
}

// checkAddClaim also checks that the result is new memory.
func checkAddClaim(t *testing.T, l []impl.Claim, x impl.Claim, want []impl.Claim, wantOk bool) {
	t.Helper()
	arg, unchanged := guarded(l, claim(1, 1, 1, 1, 0))
	got, ok := impl.AddClaim(arg, x)
	checkList(t, got, want, "AddClaim(%+v, %+v)", l, x)
	checkValue(t, ok, wantOk, "AddClaim(%+v, %+v)", l, x)
	overwrite(got, impl.Claim{})
	unchanged(t)
}

func TestAddClaim(t *testing.T) {
	for _, ids := range [][]int{{1, 2, 3, 4}, {4, 3, 2, 1}, {2, 4, 1, 3}, {3, 1, 4, 2}, {999, 1, 500, 2}} {
		var l []impl.Claim
		for i, id := range ids {
			// Two people claim two things each.
			x := claim(id, i/2+1, i%2+1, 100-i, impl.ClOpen)
			want := append(slices.Clone(l), x)
			slices.SortFunc(want, func(a, b impl.Claim) int { return a.Id - b.Id })
			checkAddClaim(t, l, x, want, true)
			l = want
		}
	}
	for _, x := range atLimits(claim(50, 5, 6, 7, 0), claimFields[:4]) {
		checkAddClaim(t, nil, x, []impl.Claim{x}, true)
	}
	served := []impl.Claim{claim(3, 1, 2, 5, impl.ClServed)}
	checkAddClaim(t, served, claim(2, 2, 2, 6, 0), []impl.Claim{claim(2, 2, 2, 6, 0), served[0]}, true)
}

func TestAddClaimRejects(t *testing.T) {
	l := []impl.Claim{claim(3, 12, 2, 40, 1), claim(5, 11, 2, 30, 2), claim(9, 11, 4, 50, 0)}
	for _, x := range []impl.Claim{
		claim(6, 13, 2, 1, 1), claim(6, 13, 2, 1, 2), claim(6, 13, 2, 1, 3),
		claim(3, 99, 99, 1, 0), claim(5, 99, 99, 1, 0), claim(9, 99, 99, 1, 0),
		claim(6, 12, 2, 1, 0), claim(6, 11, 2, 1, 0), claim(6, 11, 4, 1, 0),
	} {
		checkAddClaim(t, l, x, l, false)
	}
	for _, x := range beyondLimits(claim(50, 5, 6, 7, 0), claimFields) {
		checkAddClaim(t, l, x, l, false)
		checkAddClaim(t, nil, x, nil, false)
	}
	checkAddClaim(t, claimsFrom(2, 19), claim(1, 99, 99, 1, 0), slices.Insert(claimsFrom(2, 19), 0, claim(1, 99, 99, 1, 0)), true)
	checkAddClaim(t, claimsFrom(2, 20), claim(1, 99, 99, 1, 0), claimsFrom(2, 20), false)
	for _, bad := range invalidClaims() {
		checkAddClaim(t, bad, claim(77, 77, 77, 77, 0), bad, false)
	}
}

// checkSetState also checks that the result is new memory.
func checkSetState(t *testing.T, l []impl.Claim, id int, state int, want []impl.Claim, wantOk bool) {
	t.Helper()
	arg, unchanged := guarded(l, claim(id, 1, 1, 1, 0))
	got, ok := impl.SetState(arg, id, state)
	checkList(t, got, want, "SetState(%+v, %d, %d)", l, id, state)
	checkValue(t, ok, wantOk, "SetState(%+v, %d, %d)", l, id, state)
	overwrite(got, impl.Claim{})
	unchanged(t)
}

func TestSetState(t *testing.T) {
	allowed := map[[2]int]bool{{impl.ClOpen, impl.ClProved}: true, {impl.ClOpen, impl.ClFailed}: true, {impl.ClProved, impl.ClServed}: true}
	for from := range 4 {
		for _, to := range []int{math.MinInt, -1, 0, 1, 2, 3, 4, 5, math.MaxInt} {
			for at := range 3 {
				l := []impl.Claim{claim(3, 1, 1, 1, 0), claim(5, 2, 2, 2, 0), claim(9, 3, 3, 3, 0)}
				l[at].State = from
				want := slices.Clone(l)
				ok := allowed[[2]int{from, to}]
				if ok {
					want[at].State = to
				}
				checkSetState(t, l, l[at].Id, to, want, ok)
			}
		}
	}
	l := []impl.Claim{claim(3, 1, 1, 1, 0), claim(5, 2, 2, 2, 1)}
	for _, id := range []int{0, -1, 1, 4, 6, 999, math.MinInt, math.MaxInt} {
		for state := range 4 {
			checkSetState(t, l, id, state, l, false)
			checkSetState(t, nil, id, state, nil, false)
		}
	}
}

func TestSetStateOfInvalidClaims(t *testing.T) {
	for _, l := range invalidClaims() {
		for _, x := range l {
			for state := range 4 {
				checkSetState(t, l, x.Id, state, l, false)
			}
		}
	}
	// The result would be valid, but the list is not.
	bad := []impl.Claim{claim(1, 1, 1, 1, 5)}
	checkSetState(t, bad, 1, impl.ClOpen, bad, false)
}

func TestNoThingIsServedTwice(t *testing.T) {
	l := []impl.Claim{claim(1, 1, 2, 9, 1), claim(2, 2, 2, 9, 1), claim(3, 3, 4, 9, 1), claim(4, 4, 2, 9, 3), claim(5, 5, 6, 9, 3)}
	checkSetState(t, l, 1, impl.ClServed, l, false)
	checkSetState(t, l, 2, impl.ClServed, l, false)
	want := slices.Clone(l)
	want[2].State = impl.ClServed
	checkSetState(t, l, 3, impl.ClServed, want, true)
	// Whatever is tried, at most one claim for a thing is served.
	tried := []impl.Claim{claim(1, 1, 2, 9, 0), claim(2, 2, 2, 9, 0), claim(3, 3, 2, 9, 0), claim(4, 4, 3, 9, 0)}
	for state := range 4 {
		for id := 1; id <= 4; id++ {
			tried, _ = impl.SetState(tried, id, state)
		}
	}
	checkList(t, tried, []impl.Claim{claim(1, 1, 2, 9, 3), claim(2, 2, 2, 9, 1), claim(3, 3, 2, 9, 1), claim(4, 4, 3, 9, 3)}, "the claims in the end")
}

func TestClaimsFor(t *testing.T) {
	l := append(claimsFrom(1, 20), claim(7, 1, 2, 3, 9), claim(-5, 1, 1, 1, 1), claim(30, 1, 0, 1, 1))
	for _, thing := range []int{math.MinInt, -1, 0, 1, 2, 3, 4, 999, math.MaxInt} {
		var want []int
		for _, x := range l {
			if x.Thing == thing {
				want = append(want, x.Id)
			}
		}
		arg, unchanged := guarded(l, claim(88, 1, thing, 1, 1))
		checkList(t, impl.ClaimsFor(arg, thing), want, "ClaimsFor(.., %d)", thing)
		unchanged(t)
	}
	checkList(t, impl.ClaimsFor(nil, 1), nil, "ClaimsFor no claims")
}

func TestFirstProved(t *testing.T) {
	hours := []int{5, 3, 7}
	for pattern := range 4 * 4 * 4 {
		for _, order := range [][]int{{0, 1, 2}, {1, 0, 2}, {2, 1, 0}, {1, 1, 2}, {2, 1, 1}, {0, 0, 0}, {1, 2, 1}} {
			l := []impl.Claim{claim(99, 9, 3, 0, impl.ClProved)}
			want, at := 0, 0
			for i := range 3 {
				state := pattern >> (2 * i) & 3
				hour := hours[order[i]]
				l = append(l, claim(10+i, i+1, 2, hour, state))
				if state == impl.ClProved && (want == 0 || hour < at) {
					want, at = 10+i, hour
				}
			}
			arg, unchanged := guarded(l, claim(88, 1, 2, 0, impl.ClProved))
			checkValue(t, impl.FirstProved(arg, 2), want, "FirstProved(%+v, 2)", l)
			checkValue(t, impl.FirstProved(arg, 3), 99, "FirstProved(%+v, 3)", l)
			checkValue(t, impl.FirstProved(arg, 4), 0, "FirstProved(%+v, 4)", l)
			unchanged(t)
		}
	}
	checkValue(t, impl.FirstProved(nil, 0), 0, "FirstProved of no claims")
}

func TestClaimsOfTheSameHour(t *testing.T) {
	l := []impl.Claim{claim(3, 1, 2, 40, 0), claim(5, 2, 2, 40, 1), claim(9, 3, 2, 40, 1)}
	checkValue(t, impl.FirstProved(l, 2), 5, "FirstProved of claims of the same hour")
	l[2].At = 39
	checkValue(t, impl.FirstProved(l, 2), 9, "FirstProved of a claim an hour earlier")
	checkAddClaim(t, l, claim(4, 4, 2, 40, 0), []impl.Claim{l[0], claim(4, 4, 2, 40, 0), l[1], l[2]}, true)
}
