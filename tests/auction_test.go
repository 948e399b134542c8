package tests

import (
	"math"
	"slices"
	"testing"

	"loop.example/g03007/impl"
)

func bid(who int, cents int) impl.Bid {
	return impl.Bid{Who: who, Cents: cents}
}

var bidFields = []field[impl.Bid]{
	{1, 999, func(x *impl.Bid, n int) { x.Who = n }},
	{1, 10000000, func(x *impl.Bid, n int) { x.Cents = n }},
}

func bidsFrom(who int, count int) []impl.Bid {
	var l []impl.Bid
	for i := range count {
		l = append(l, bid(who+i, 100*(i*7%5)+1))
	}
	return l
}

// someBids has all orders of four heights, among them bids of the same height.
func someBids() [][]impl.Bid {
	l := [][]impl.Bid{nil, {}, {bid(5, 300)}, {bid(1, 1)}, {bid(999, 10000000)}, bidsFrom(1, 19), bidsFrom(1, 20), bidsFrom(980, 20)}
	heights := []int{1, 300, 650, 10000000}
	for n := range 256 {
		var bids []impl.Bid
		for i := range 4 {
			bids = append(bids, bid(9-2*i, heights[n>>(2*i)&3]))
		}
		l = append(l, bids, bids[:2], bids[:3])
	}
	return l
}

func invalidBids() [][]impl.Bid {
	l := [][]impl.Bid{{{}}, make([]impl.Bid, 21), bidsFrom(1, 21), bidsFrom(1, 22), bidsFrom(0, 3), bidsFrom(998, 3), {bid(5, 300), bid(5, 400)}, {bid(5, 300), bid(5, 300)}, {bid(5, 300), bid(4, 100), bid(5, 200)}}
	for _, bad := range beyondLimits(bid(500, 500), bidFields) {
		l = append(l, []impl.Bid{bad}, []impl.Bid{bid(3, 600), bad}, []impl.Bid{bad, bid(4, 400)})
	}
	return l
}

func TestSealBid(t *testing.T) {
	for _, salt := range someSalts {
		for _, who := range []int{0, 1, 5, 999, -1, math.MinInt} {
			for _, cents := range []int{0, 1, 300, 10000000, -1, math.MaxInt} {
				checkValue(t, impl.SealBid(salt, who, cents), wantHash(salt, who, cents), "SealBid(%d, %d, %d)", salt, who, cents)
			}
		}
	}
}

func TestIsOpened(t *testing.T) {
	for _, salt := range someSalts {
		for _, x := range append(atLimits(bid(500, 500), bidFields), bid(5, 300)) {
			x.Seal = impl.SealBid(salt, x.Who, x.Cents)
			checkValue(t, impl.IsOpened(x, salt), true, "IsOpened(%+v, %d)", x, salt)
			checkValue(t, impl.IsOpened(x, salt+1), false, "IsOpened(%+v, %d)", x, salt+1)
			for _, change := range []func(x *impl.Bid){
				func(x *impl.Bid) { x.Seal++ }, func(x *impl.Bid) { x.Seal += impl.Modulus },
				func(x *impl.Bid) { x.Who = x.Who%999 + 1 }, func(x *impl.Bid) { x.Cents = x.Cents%10000000 + 1 },
			} {
				y := x
				change(&y)
				checkValue(t, impl.IsOpened(y, salt), false, "IsOpened(%+v, %d)", y, salt)
			}
		}
		for _, x := range append(beyondLimits(bid(500, 500), bidFields), impl.Bid{}) {
			x.Seal = impl.SealBid(salt, x.Who, x.Cents)
			checkValue(t, impl.IsOpened(x, salt), false, "IsOpened(%+v, %d)", x, salt)
		}
	}
}

func TestAreBids(t *testing.T) {
	for _, l := range someBids() {
		arg, unchanged := guarded(l, bid(5, 300))
		checkValue(t, impl.AreBids(arg), true, "AreBids(%v)", l)
		unchanged(t)
	}
	for _, x := range atLimits(bid(500, 500), bidFields) {
		checkValue(t, impl.AreBids([]impl.Bid{x}), true, "AreBids(%v)", x)
		// The seals are not asked for.
		x.Seal = -1
		checkValue(t, impl.AreBids([]impl.Bid{x}), true, "AreBids(%v)", x)
	}
	for _, l := range invalidBids() {
		checkValue(t, impl.AreBids(l), false, "AreBids(%v)", l)
	}
}

// wantRanks takes the first one of the highest bids out, again and again.
func wantRanks(l []impl.Bid) []impl.Bid {
	rest, ranks := slices.Clone(l), []impl.Bid(nil)
	for len(rest) > 0 {
		best := 0
		for i := range rest {
			if rest[i].Cents > rest[best].Cents {
				best = i
			}
		}
		ranks = append(ranks, rest[best])
		rest = slices.Delete(rest, best, best+1)
	}
	return ranks
}

func TestWinner(t *testing.T) {
	for _, l := range someBids() {
		ranks := wantRanks(l)
		want := [2]int{}
		if len(ranks) > 0 {
			want = [2]int{ranks[0].Who, 1}
		}
		if len(ranks) > 1 {
			want[1] = ranks[1].Cents
		}
		arg, unchanged := guarded(l, bid(77, 10000000))
		who, price := impl.Winner(arg)
		checkValue(t, [2]int{who, price}, want, "Winner(%v)", l)
		unchanged(t)
	}
	for _, l := range invalidBids() {
		who, price := impl.Winner(l)
		checkValue(t, [2]int{who, price}, [2]int{}, "Winner(%v)", l)
	}
}

func TestTheWinnerPaysNoMoreThanTheirBid(t *testing.T) {
	for _, l := range someBids() {
		who, price := impl.Winner(l)
		for _, x := range l {
			if x.Who == who && (price > x.Cents || price < 1) || x.Who != who && price < x.Cents {
				t.Errorf("Winner(%v) = %d, %d", l, who, price)
			}
		}
	}
}

func TestBidsOfTheSameHeight(t *testing.T) {
	l := []impl.Bid{bid(5, 300), bid(2, 700), bid(9, 700), bid(4, 650), bid(1, 700), bid(3, 300)}
	who, price := impl.Winner(l)
	checkValue(t, [2]int{who, price}, [2]int{2, 700}, "Winner")
	checkList(t, impl.HighestBids(l, 6), []int{2, 9, 1, 4, 5, 3}, "HighestBids")
	checkList(t, impl.HighestBids(l, 2), []int{2, 9}, "HighestBids")
	who, price = impl.Winner(impl.WithoutBid(l, 2))
	checkValue(t, [2]int{who, price}, [2]int{9, 700}, "Winner without the first one")
}

func TestHighestBids(t *testing.T) {
	for _, l := range someBids() {
		ranks := wantRanks(l)
		for _, n := range []int{0, 1, 2, 3, 4, 5, 19, 20, 21, math.MaxInt} {
			var want []int
			for _, x := range ranks[:min(n, len(ranks))] {
				want = append(want, x.Who)
			}
			arg, unchanged := guarded(l, bid(77, 10000000))
			checkList(t, impl.HighestBids(arg, n), want, "HighestBids(%v, %d)", l, n)
			unchanged(t)
		}
		for _, n := range []int{-1, -2, math.MinInt} {
			checkList(t, impl.HighestBids(l, n), nil, "HighestBids(%v, %d)", l, n)
		}
	}
	for _, l := range invalidBids() {
		for _, n := range []int{-1, 0, 1, 2, 30} {
			checkList(t, impl.HighestBids(l, n), nil, "HighestBids(%v, %d)", l, n)
		}
	}
}

func TestWithoutBid(t *testing.T) {
	for _, l := range append(someBids(), invalidBids()...) {
		for _, who := range []int{math.MinInt, -1, 0, 1, 3, 4, 5, 7, 9, 500, 999} {
			var want []impl.Bid
			for _, x := range l {
				if x.Who != who {
					want = append(want, x)
				}
			}
			arg, unchanged := guarded(l, bid(77, 77))
			got := impl.WithoutBid(arg, who)
			checkList(t, got, want, "WithoutBid(%v, %d)", l, who)
			overwrite(got, impl.Bid{})
			unchanged(t)
		}
	}
}
