package tests

import (
	"math"
	"math/big"
	"slices"
	"testing"

	"loop.example/g03007/impl"
)

func worthThing(worth int) impl.Thing {
	return impl.Thing{Id: 2, Kind: impl.KdBag, Colour: 1, Size: 4, Worth: worth}
}

var someMoney = []int{0, 1, 2, 3, 9, 10, 11, 19, 20, 99, 100, 101, 999, 1000, 1009, 1010, 9000, 9999, 49999, 50000, 50001, 50019, 50020, 50033, 50034, 60000, 101000, 9999999, 10000000}

func TestFeeFor(t *testing.T) {
	for _, worth := range someMoney {
		for _, days := range []int{0, 1, 2, 10, 79, 80, 81, 90, 998, 999, 1000} {
			want := 100
			for range days {
				want += 10
			}
			for want*10 > worth {
				want--
			}
			checkValue(t, impl.FeeFor(worthThing(worth), days), want, "FeeFor a thing of %d after %d days", worth, days)
		}
		for _, days := range []int{-1, -2, 1001, 1002, math.MinInt, math.MaxInt} {
			checkValue(t, impl.FeeFor(worthThing(worth), days), 0, "FeeFor a thing of %d after %d days", worth, days)
		}
	}
	for _, x := range invalidThings() {
		checkValue(t, impl.FeeFor(x, 3), 0, "FeeFor(%+v, 3)", x)
	}
}

func TestRewardFor(t *testing.T) {
	for _, worth := range someMoney {
		first, rest := min(worth, 50000), max(worth-50000, 0)
		want := (first-first%20)/20 + (rest*3-rest*3%100)/100
		checkValue(t, impl.RewardFor(worthThing(worth)), want, "RewardFor a thing of %d", worth)
	}
	for worth, want := range map[int]int{0: 0, 19: 0, 20: 1, 50000: 2500, 50033: 2500, 50034: 2501, 60000: 2800, 10000000: 301000} {
		checkValue(t, impl.RewardFor(worthThing(worth)), want, "RewardFor a thing of %d", worth)
	}
	// Each of the two is rounded down alone.
	checkValue(t, impl.RewardFor(worthThing(49999)), 2499, "RewardFor a thing of 49999")
	for _, x := range invalidThings() {
		checkValue(t, impl.RewardFor(x), 0, "RewardFor(%+v)", x)
	}
}

func someParts() [][]int {
	l := [][]int{{1}, {4}, {1000}, {1, 1}, {1, 2}, {0, 1}, {1, 0}, {0, 3, 1}, {0, 0, 1}, {1, 1, 1}, {3, 3, 1}, {1000, 999, 1}, {1000, 1000}, {7, 0, 0, 5, 11}, slices.Repeat([]int{1}, 19), slices.Repeat([]int{1000}, 20), slices.Repeat([]int{999, 1}, 10)}
	var ascending []int
	for i := range 20 {
		ascending = append(ascending, i)
	}
	return append(l, ascending)
}

func wantSplit(cents int, parts []int) []int {
	sum := 0
	for _, part := range parts {
		sum += part
	}
	var split []int
	left := cents
	for _, part := range parts {
		product := new(big.Int).Mul(big.NewInt(int64(cents)), big.NewInt(int64(part)))
		n := int(product.Div(product, big.NewInt(int64(sum))).Int64())
		split = append(split, n)
		left -= n
	}
	for i := 0; left > 0; i++ {
		split[i%len(split)]++
		left--
	}
	return split
}

func TestNoCentIsLostWhenMoneyIsShared(t *testing.T) {
	for _, cents := range append(someMoney, 4, 5, 6, 7, 8, 12, 13, 14, 15, 16, 17, 18, 21, 22, 23, 705) {
		for _, parts := range someParts() {
			arg, unchanged := guarded(parts, 5)
			got := impl.SplitMoney(cents, arg)
			checkList(t, got, wantSplit(cents, parts), "SplitMoney(%d, %v)", cents, parts)
			sum := 0
			for _, n := range got {
				sum += n
			}
			checkValue(t, sum, cents, "the sum of SplitMoney(%d, %v)", cents, parts)
			overwrite(got, -1)
			unchanged(t)
		}
	}
}

func TestCentsThatCannotBeDivided(t *testing.T) {
	for _, c := range []struct {
		cents       int
		parts, want []int
	}{
		{100, []int{1, 1, 1}, []int{34, 33, 33}},
		{101, []int{1, 1, 1}, []int{34, 34, 33}},
		{102, []int{1, 1, 1}, []int{34, 34, 34}},
		{101, []int{1, 2}, []int{34, 67}},
		{1, []int{1, 1000}, []int{1, 0}},
		// What is left goes to the first ones, also if they have no part.
		{7, []int{0, 3, 1}, []int{1, 5, 1}},
		{1, []int{0, 1, 1}, []int{1, 0, 0}},
		{2, []int{0, 1, 1, 1}, []int{1, 1, 0, 0}},
		{0, []int{4, 0}, []int{0, 0}},
	} {
		checkList(t, impl.SplitMoney(c.cents, c.parts), c.want, "SplitMoney(%d, %v)", c.cents, c.parts)
	}
}

func TestSplitMoneyRejects(t *testing.T) {
	for _, cents := range []int{-1, -2, 10000001, 10000002, math.MinInt, math.MaxInt} {
		for _, parts := range someParts() {
			checkList(t, impl.SplitMoney(cents, parts), nil, "SplitMoney(%d, %v)", cents, parts)
		}
	}
	for _, parts := range [][]int{
		nil, {}, {0}, {0, 0}, make([]int, 20), slices.Repeat([]int{1}, 21), slices.Repeat([]int{1}, 22),
		{-1}, {1, -1}, {-1, 2}, {2, 1001}, {1001}, {1002, 1}, {math.MinInt}, {math.MaxInt}, {1, math.MinInt, 5}, {1, 2, math.MaxInt},
	} {
		for _, cents := range []int{0, 1, 5, 10000000} {
			checkList(t, impl.SplitMoney(cents, parts), nil, "SplitMoney(%d, %v)", cents, parts)
		}
	}
}

func share(who int, cents int) impl.Share {
	return impl.Share{Who: who, Cents: cents}
}

func TestSalesOf(t *testing.T) {
	for _, price := range append(someMoney, 4, 5, 6, 7, 8, 705) {
		for _, finder := range []int{1, 2, 7, 998, 999} {
			tenth := (price + 9) / 10
			checkList(t, impl.SalesOf(price, finder), []impl.Share{share(finder, tenth), share(0, price-tenth)}, "SalesOf(%d, %d)", price, finder)
		}
		for _, finder := range []int{0, -1, -7, 1000, 1001, math.MinInt, math.MaxInt} {
			checkList(t, impl.SalesOf(price, finder), []impl.Share{share(0, price)}, "SalesOf(%d, %d)", price, finder)
		}
		checkValue(t, impl.TotalShares(impl.SalesOf(price, 7)), price, "the total of SalesOf(%d, 7)", price)
	}
	for _, price := range []int{-1, -2, 10000001, 10000002, math.MinInt, math.MaxInt} {
		for _, finder := range []int{-1, 0, 7, 999, 1000} {
			checkList(t, impl.SalesOf(price, finder), nil, "SalesOf(%d, %d)", price, finder)
		}
	}
}

func TestTotalShares(t *testing.T) {
	for _, c := range []struct {
		shares []impl.Share
		want   int
	}{
		{nil, 0},
		{[]impl.Share{share(7, 71), share(0, 634)}, 705},
		{[]impl.Share{share(7, 71), share(7, 71), share(-5, 1)}, 143},
		{[]impl.Share{share(1, 0), share(1, -1), share(1, math.MinInt)}, 0},
		{[]impl.Share{share(1, 10000000), share(1, 9999999)}, 19999999},
		{[]impl.Share{share(1, 10000001), share(1, math.MaxInt), share(1, -5), share(1, 20000000)}, 30000000},
		{slices.Repeat([]impl.Share{share(1, 10000000)}, 1000), 10000000000},
	} {
		arg, unchanged := guarded(c.shares, share(1, 1))
		checkValue(t, impl.TotalShares(arg), c.want, "TotalShares(%v)", c.shares)
		unchanged(t)
	}
}
