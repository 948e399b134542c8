package tests

import (
	"math"
	"slices"
	"testing"

	"loop.example/g03007/impl"
)

func entry(from int, to int, cents int, at int) impl.Entry {
	return impl.Entry{From: from, To: to, Cents: cents, At: at}
}

var entryFields = []field[impl.Entry]{
	{0, 999, func(x *impl.Entry, n int) { x.From = n }},
	{0, 999, func(x *impl.Entry, n int) { x.To = n }},
	{1, 10000000, func(x *impl.Entry, n int) { x.Cents = n }},
	{0, 100000, func(x *impl.Entry, n int) { x.At = n }},
}

func entriesOf(count int) []impl.Entry {
	var l []impl.Entry
	for i := range count {
		l = append(l, entry(i%5, i%5+1+i%3, 100*i+1, i/2))
	}
	return l
}

func someBooks() [][]impl.Entry {
	return [][]impl.Entry{
		nil, {}, {entry(0, 999, 1, 0)}, {entry(999, 0, 10000000, 100000)}, {entry(7, 0, 500, 5), entry(0, 8, 120, 5), entry(7, 8, 30, 9)}, {entry(7, 8, 30, 9), entry(8, 7, 30, 9), entry(8, 7, 5, 9)},
		entriesOf(99), entriesOf(100), slices.Repeat([]impl.Entry{entry(0, 1, 10000000, 7)}, 100),
	}
}

func invalidBooks() [][]impl.Entry {
	l := [][]impl.Entry{
		{{}}, make([]impl.Entry, 101), entriesOf(101), entriesOf(102),
		{entry(5, 5, 100, 1)}, {entry(0, 0, 100, 1)}, {entry(5, 6, 100, 1), entry(6, 6, 100, 1)},
		// The hours descend.
		{entry(1, 0, 5, 9), entry(1, 0, 5, 8)}, {entry(1, 0, 5, 1), entry(2, 0, 5, 9), entry(1, 0, 5, 8)},
	}
	for _, bad := range beyondLimits(entry(50, 60, 700, 8), entryFields) {
		l = append(l, []impl.Entry{bad}, []impl.Entry{entry(1, 2, 3, 0), bad}, []impl.Entry{bad, entry(1, 2, 3, 100000)})
	}
	return l
}

func TestAreEntries(t *testing.T) {
	for _, l := range someBooks() {
		arg, unchanged := guarded(l, entry(1, 1, 1, 1))
		checkValue(t, impl.AreEntries(arg), true, "AreEntries(%v)", l)
		unchanged(t)
	}
	for _, x := range atLimits(entry(50, 60, 700, 8), entryFields) {
		checkValue(t, impl.AreEntries([]impl.Entry{x}), true, "AreEntries(%v)", x)
	}
	for _, l := range invalidBooks() {
		checkValue(t, impl.AreEntries(l), false, "AreEntries(%v)", l)
	}
}

var someAccounts = []int{math.MinInt, -1, 0, 1, 2, 3, 4, 5, 6, 7, 8, 9, 50, 60, 998, 999, 1000, math.MaxInt}

func TestBalanceAndTotalPaid(t *testing.T) {
	for _, l := range someBooks() {
		for _, account := range someAccounts {
			got, paid := 0, 0
			for _, x := range l {
				if x.To == account {
					got += x.Cents
				}
				if x.From == account {
					paid += x.Cents
				}
			}
			arg, unchanged := guarded(l, entry(account, 500, 77, 100000))
			checkValue(t, impl.Balance(arg, account), got-paid, "Balance(%v, %d)", l, account)
			checkValue(t, impl.TotalPaid(arg, account), paid, "TotalPaid(%v, %d)", l, account)
			unchanged(t)
		}
	}
	for _, l := range invalidBooks() {
		for _, account := range append(someAccounts, impl.AccountsOf(l)...) {
			checkValue(t, impl.Balance(l, account), 0, "Balance(%v, %d)", l, account)
			checkValue(t, impl.TotalPaid(l, account), 0, "TotalPaid(%v, %d)", l, account)
		}
	}
}

func TestWhatOneHasMoreAnotherOneHasLess(t *testing.T) {
	for _, l := range someBooks() {
		sum := 0
		for account := range 1000 {
			sum += impl.Balance(l, account)
		}
		checkValue(t, sum, 0, "the sum of all balances of %v", l)
		if len(l) == 100 {
			continue
		}
		for _, x := range []impl.Entry{entry(0, 7, 1, 100000), entry(999, 0, 10000000, 100000), entry(3, 5, 88, 100000)} {
			longer, ok := impl.AddEntry(l, x)
			checkValue(t, ok, true, "AddEntry(%v, %v)", l, x)
			for _, account := range someAccounts {
				more := 0
				switch account {
				case x.From:
					more = -x.Cents
				case x.To:
					more = x.Cents
				}
				checkValue(t, impl.Balance(longer, account), impl.Balance(l, account)+more, "Balance(.., %d) behind %v", account, x)
			}
		}
	}
}

// checkAddEntry also checks that the result is new memory.
func checkAddEntry(t *testing.T, l []impl.Entry, x impl.Entry, wantOk bool) {
	t.Helper()
	want := slices.Clone(l)
	if wantOk {
		want = append(want, x)
	}
	arg, unchanged := guarded(l, entry(1, 1, 1, 1))
	got, ok := impl.AddEntry(arg, x)
	checkList(t, got, want, "AddEntry(%v, %v)", l, x)
	checkValue(t, ok, wantOk, "AddEntry(%v, %v)", l, x)
	overwrite(got, impl.Entry{})
	unchanged(t)
}

func TestAddEntry(t *testing.T) {
	l := someBooks()[4]
	for _, x := range atLimits(entry(50, 60, 700, 8), entryFields) {
		checkAddEntry(t, nil, x, true)
		checkAddEntry(t, l, x, x.At >= 9)
	}
	for _, x := range beyondLimits(entry(50, 60, 700, 50), entryFields) {
		checkAddEntry(t, nil, x, false)
		checkAddEntry(t, l, x, false)
	}
	for _, account := range []int{0, 1, 7, 999} {
		checkAddEntry(t, l, entry(account, account, 5, 9), false)
	}
	checkAddEntry(t, entriesOf(99), entry(1, 2, 3, 49), true)
	checkAddEntry(t, entriesOf(100), entry(1, 2, 3, 49), false)
	for _, bad := range invalidBooks() {
		checkAddEntry(t, bad, entry(1, 2, 3, 100000), false)
	}
}

func TestEntriesOfTheSameHour(t *testing.T) {
	l := []impl.Entry{entry(7, 0, 500, 9)}
	for i := range 5 {
		checkAddEntry(t, l, entry(0, 8, 100, 8), false)
		checkAddEntry(t, l, entry(0, 8, 100, 9), true)
		l, _ = impl.AddEntry(l, entry(0, 8, 100, 9))
		checkValue(t, impl.Balance(l, 8), 100*(i+1), "Balance(%v, 8)", l)
		checkValue(t, impl.Balance(l, 0), 400-100*i, "Balance(%v, 0)", l)
	}
}

func TestAccountsOf(t *testing.T) {
	for _, l := range append(someBooks(), invalidBooks()...) {
		var want []int
		for _, x := range l {
			want = append(want, x.From, x.To)
		}
		slices.Sort(want)
		arg, unchanged := guarded(l, entry(333, 444, 1, 1))
		checkList(t, impl.AccountsOf(arg), slices.Compact(want), "AccountsOf(%v)", l)
		unchanged(t)
	}
	checkList(t, impl.AccountsOf([]impl.Entry{entry(9, 3, 1, 1), entry(0, 9, 1, 1), entry(3, -2, 1, 1)}), []int{-2, 0, 3, 9}, "AccountsOf")
}

// checkPayShares also checks that the result is new memory.
func checkPayShares(t *testing.T, l []impl.Entry, payer int, shares []impl.Share, at int, want []impl.Entry, wantOk bool) {
	t.Helper()
	arg, unchanged := guarded(l, entry(1, 1, 1, 1))
	parts, sameShares := guarded(shares, share(9, 9))
	got, ok := impl.PayShares(arg, payer, parts, at)
	checkList(t, got, want, "PayShares(%v, %d, %v, %d)", l, payer, shares, at)
	checkValue(t, ok, wantOk, "PayShares(%v, %d, %v, %d)", l, payer, shares, at)
	overwrite(got, impl.Entry{})
	unchanged(t)
	sameShares(t)
}

func TestPayShares(t *testing.T) {
	l := someBooks()[4]
	for _, c := range []struct {
		payer  int
		shares []impl.Share
		added  []impl.Entry
	}{
		{0, nil, nil},
		{0, []impl.Share{share(7, 100)}, []impl.Entry{entry(0, 7, 100, 20)}},
		{0, []impl.Share{share(7, 100), share(9, 0), share(8, 50)}, []impl.Entry{entry(0, 7, 100, 20), entry(0, 8, 50, 20)}},
		{5, []impl.Share{share(0, 1), share(0, 2), share(999, 10000000)}, []impl.Entry{entry(5, 0, 1, 20), entry(5, 0, 2, 20), entry(5, 999, 10000000, 20)}},
		// What has no cents is not looked at.
		{0, []impl.Share{share(0, 0), share(-5, 0), share(1000, 0)}, nil},
		{5, []impl.Share{share(5, 0), share(6, 3), share(5, 0)}, []impl.Entry{entry(5, 6, 3, 20)}},
		{-5, []impl.Share{share(6, 0)}, nil},
	} {
		checkPayShares(t, l, c.payer, c.shares, 20, slices.Concat(l, c.added), true)
		checkPayShares(t, nil, c.payer, c.shares, 20, c.added, true)
	}
	checkPayShares(t, l, 0, nil, -1, l, true)
	checkPayShares(t, entriesOf(98), 0, []impl.Share{share(1, 1), share(3, 0), share(2, 2)}, 50, append(entriesOf(98), entry(0, 1, 1, 50), entry(0, 2, 2, 50)), true)
	for _, bad := range invalidBooks() {
		checkPayShares(t, bad, 0, []impl.Share{share(7, 0)}, 100000, bad, true)
	}
}

func TestPaySharesRejects(t *testing.T) {
	l := someBooks()[4]
	for _, shares := range [][]impl.Share{
		{share(0, 50)}, {share(7, 100), share(0, 50)}, {share(7, -1)}, {share(7, 100), share(8, -5)}, {share(7, 10000001)}, {share(1000, 5)}, {share(-1, 5)}, {share(7, 100), share(8, math.MinInt), share(9, 1)},
	} {
		checkPayShares(t, l, 0, shares, 20, l, false)
	}
	for _, at := range []int{-1, 0, 8, 100001, math.MinInt, math.MaxInt} {
		checkPayShares(t, l, 0, []impl.Share{share(7, 100)}, at, l, false)
	}
	for _, payer := range []int{-1, 7, 1000, math.MinInt, math.MaxInt} {
		checkPayShares(t, l, payer, []impl.Share{share(7, 100)}, 20, l, false)
	}
	checkPayShares(t, entriesOf(98), 0, []impl.Share{share(1, 1), share(2, 2), share(3, 3)}, 50, entriesOf(98), false)
	for _, bad := range invalidBooks() {
		checkPayShares(t, bad, 0, []impl.Share{share(7, 100)}, 100000, bad, false)
	}
}

func TestSharesOfASaleArePaid(t *testing.T) {
	for _, price := range someMoney[1:] {
		l, ok := impl.AddEntry(nil, entry(101, 0, price, 5))
		checkValue(t, ok, true, "AddEntry of the price %d", price)
		sales := impl.SalesOf(price, 8)
		paid, ok := impl.PayShares(l, 0, sales[:1], 5)
		checkValue(t, ok, true, "PayShares of %v", sales)
		checkValue(t, impl.Balance(paid, 101), -price, "Balance of the buyer")
		checkValue(t, impl.Balance(paid, 8), sales[0].Cents, "Balance of the finder")
		checkValue(t, impl.Balance(paid, 0), sales[1].Cents, "Balance of the house")
	}
}
