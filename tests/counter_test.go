package tests

import (
	"math"
	"slices"
	"testing"

	"loop.example/g03007/impl"
)

func ticket(id int, at int, hour int) impl.Ticket {
	return impl.Ticket{Id: id, At: at, Hour: hour}
}

var ticketFields = []field[impl.Ticket]{
	{1, 999, func(x *impl.Ticket, n int) { x.Id = n }},
	{0, 100000, func(x *impl.Ticket, n int) { x.At = n }},
	{-1, 100000, func(x *impl.Ticket, n int) { x.Hour = n }},
}

func ticketsFrom(id int, count int) []impl.Ticket {
	var l []impl.Ticket
	for i := range count {
		l = append(l, ticket(id+i, i*7%10, i*5%8-1))
	}
	return l
}

// someTickets has all ways in which four tickets can be drawn or have an appointment, some at the same minute.
func someTickets() [][]impl.Ticket {
	l := [][]impl.Ticket{
		nil, {}, {ticket(1, 0, -1)}, {ticket(999, 100000, 100000)}, ticketsFrom(1, 29), ticketsFrom(1, 30), ticketsFrom(970, 30),
		{ticket(1, 10, -1), ticket(2, 5, -1), ticket(3, 0, 30), ticket(4, 40, -1), ticket(5, 0, 20), ticket(6, 5, -1)},
	}
	kinds := []impl.Ticket{ticket(0, 5, -1), ticket(0, 9, -1), ticket(0, 0, 5), ticket(0, 9, 9)}
	for n := range 256 {
		var tickets []impl.Ticket
		for i := range 4 {
			x := kinds[n>>(2*i)&3]
			x.Id = 3*i + 2
			tickets = append(tickets, x)
		}
		l = append(l, tickets)
	}
	return l
}

func invalidTickets() [][]impl.Ticket {
	l := [][]impl.Ticket{
		{{}}, make([]impl.Ticket, 31), ticketsFrom(1, 31), ticketsFrom(1, 32), ticketsFrom(0, 2), ticketsFrom(999, 2),
		{ticket(2, 1, -1), ticket(1, 1, -1)}, {ticket(2, 1, -1), ticket(2, 3, -1)}, {ticket(1, 1, -1), ticket(3, 1, -1), ticket(2, 1, -1)},
	}
	for _, bad := range beyondLimits(ticket(50, 5, 6), ticketFields) {
		l = append(l, []impl.Ticket{bad}, []impl.Ticket{ticket(1, 1, -1), bad}, []impl.Ticket{bad, ticket(999, 1, -1)})
	}
	return append(l, []impl.Ticket{ticket(1, 1, -2)}, []impl.Ticket{ticket(1, 1, math.MinInt)})
}

func TestAreTickets(t *testing.T) {
	for _, l := range someTickets() {
		arg, unchanged := guarded(l, ticket(1, 0, -1))
		checkValue(t, impl.AreTickets(arg), true, "AreTickets(%v)", l)
		unchanged(t)
	}
	for _, x := range atLimits(ticket(50, 5, 6), ticketFields) {
		checkValue(t, impl.AreTickets([]impl.Ticket{x}), true, "AreTickets(%v)", x)
	}
	for _, l := range invalidTickets() {
		checkValue(t, impl.AreTickets(l), false, "AreTickets(%v)", l)
	}
}

// wantNext compares each ticket with the best one before it; it returns an index, or -1.
func wantNext(l []impl.Ticket, now int) int {
	best, drawn := -1, -1
	for i, x := range l {
		if x.Hour != -1 && x.Hour <= now && (best < 0 || x.Hour < l[best].Hour) {
			best = i
		}
		if x.Hour == -1 && x.At <= now && (drawn < 0 || x.At < l[drawn].At) {
			drawn = i
		}
	}
	if best < 0 {
		return drawn
	}
	return best
}

// checkCall also checks that the result is new memory.
func checkCall(t *testing.T, l []impl.Ticket, now int, want []impl.Ticket, wantId int) {
	t.Helper()
	arg, unchanged := guarded(l, ticket(1, 0, 0))
	checkValue(t, impl.NextTicket(arg, now), wantId, "NextTicket(%v, %d)", l, now)
	got, id := impl.CallTicket(arg, now)
	checkList(t, got, want, "CallTicket(%v, %d)", l, now)
	checkValue(t, id, wantId, "the Id of CallTicket(%v, %d)", l, now)
	overwrite(got, impl.Ticket{})
	unchanged(t)
}

func TestNextTicketAndCallTicket(t *testing.T) {
	for _, l := range someTickets() {
		for _, now := range []int{math.MinInt, -2, -1, 0, 1, 4, 5, 6, 8, 9, 10, 19, 20, 29, 30, 40, 99999, 100000, math.MaxInt} {
			at := wantNext(l, now)
			if at < 0 {
				checkCall(t, l, now, l, 0)
				continue
			}
			checkCall(t, l, now, slices.Concat(l[:at], l[at+1:]), l[at].Id)
		}
	}
	for _, l := range invalidTickets() {
		for _, now := range []int{-2, -1, 0, 5, 50, 100000, math.MaxInt} {
			checkCall(t, l, now, l, 0)
		}
	}
}

func TestAppointmentsInThePast(t *testing.T) {
	// An appointment is called first also if its minute is long past, or before the ticket was drawn.
	l := []impl.Ticket{ticket(1, 0, -1), ticket(2, 90, 30), ticket(3, 90, 20), ticket(4, 1, -1), ticket(5, 0, 95)}
	for _, c := range []struct{ now, want int }{{0, 1}, {19, 1}, {20, 3}, {29, 3}, {94, 3}, {100000, 3}} {
		checkValue(t, impl.NextTicket(l, c.now), c.want, "NextTicket at %d", c.now)
	}
	checkList(t, impl.CallAll(l, 90, 1), []int{3, 2, 1, 4, 5}, "CallAll")
	checkList(t, impl.CallAll(l, 94, 1), []int{3, 2, 5, 1, 4}, "CallAll")
}

// wantCalls calls one ticket at each minute; it is nil if one of them would be called too late.
func wantCalls(l []impl.Ticket, from int, each int) []int {
	var ids []int
	waiting := slices.Clone(l)
	for now := from; now <= 100000 && len(waiting) > 0; now += each {
		if at := wantNext(waiting, now); at >= 0 {
			ids = append(ids, waiting[at].Id)
			waiting = slices.Delete(waiting, at, at+1)
		}
	}
	if len(waiting) > 0 {
		return nil
	}
	return ids
}

// checkCallAll also checks that everybody is called once.
func checkCallAll(t *testing.T, l []impl.Ticket, from int, each int, want []int) {
	t.Helper()
	arg, unchanged := guarded(l, ticket(1, 0, 0))
	got := impl.CallAll(arg, from, each)
	checkList(t, got, want, "CallAll(%v, %d, %d)", l, from, each)
	unchanged(t)
	if len(got) == 0 {
		return
	}
	slices.Sort(got)
	var ids []int
	for _, x := range l {
		ids = append(ids, x.Id)
	}
	checkList(t, got, ids, "the Ids of CallAll(%v, %d, %d) in order", l, from, each)
}

func TestEverybodyIsCalledOnce(t *testing.T) {
	for _, l := range someTickets() {
		for _, from := range []int{0, 1, 4, 5, 6, 9, 30, 99940, 99999, 100000} {
			for _, each := range []int{1, 2, 5, 7, 59, 60} {
				checkCallAll(t, l, from, each, wantCalls(l, from, each))
			}
		}
	}
	l := someTickets()[7]
	checkCallAll(t, l, 5, 10, []int{2, 6, 5, 3, 1, 4})
	checkCallAll(t, l, 0, 60, []int{5, 3, 2, 6, 1, 4})
}

func TestTicketsThatCanOnlyBeCalledTooLate(t *testing.T) {
	for _, c := range []struct {
		l          []impl.Ticket
		from, each int
		want       []int
	}{
		{[]impl.Ticket{ticket(1, 100000, -1)}, 0, 1, []int{1}},
		{[]impl.Ticket{ticket(1, 100000, -1)}, 100000, 60, []int{1}},
		{[]impl.Ticket{ticket(1, 0, 100000)}, 0, 50, []int{1}},
		{[]impl.Ticket{ticket(1, 99999, -1)}, 0, 60, nil},
		{[]impl.Ticket{ticket(1, 99961, -1)}, 1, 60, []int{1}},
		{[]impl.Ticket{ticket(1, 99962, -1)}, 1, 60, nil},
		// The second one would be called behind MaxHour.
		{[]impl.Ticket{ticket(1, 0, -1), ticket(2, 0, -1)}, 100000, 1, nil},
		{[]impl.Ticket{ticket(1, 0, -1), ticket(2, 0, -1)}, 99999, 1, []int{1, 2}},
		{[]impl.Ticket{ticket(1, 0, -1), ticket(2, 0, -1)}, 99999, 2, nil},
		{ticketsFrom(1, 30), 100000 - 29*60, 60, wantCalls(ticketsFrom(1, 30), 100000-29*60, 60)},
		{ticketsFrom(1, 30), 100001 - 29*60, 60, nil},
	} {
		checkCallAll(t, c.l, c.from, c.each, c.want)
	}
}

func TestCallAllRejects(t *testing.T) {
	l := []impl.Ticket{ticket(1, 0, -1), ticket(2, 0, 5)}
	for _, from := range []int{-1, -2, math.MinInt, 100001, math.MaxInt} {
		checkCallAll(t, l, from, 1, nil)
		checkCallAll(t, nil, from, 1, nil)
	}
	for _, each := range []int{0, -1, -60, math.MinInt, 61, 62, math.MaxInt} {
		checkCallAll(t, l, 0, each, nil)
		checkCallAll(t, nil, 0, each, nil)
	}
	for _, bad := range invalidTickets() {
		checkCallAll(t, bad, 0, 1, nil)
	}
}

func TestBeforeIn(t *testing.T) {
	mixed := []impl.Ticket{ticket(4, 7, -1), ticket(2, 7, -1), ticket(4, 0, 3), ticket(9, 0, -2), ticket(0, 5, -1), ticket(-3, math.MinInt, -1), ticket(7, math.MaxInt, -1)}
	for _, l := range append(append(someTickets(), invalidTickets()...), mixed) {
		for _, id := range []int{math.MinInt, -3, -1, 0, 1, 2, 4, 5, 6, 7, 8, 9, 11, 20, 30, 970, 999, math.MaxInt} {
			want := -1
			at := slices.IndexFunc(l, func(x impl.Ticket) bool { return x.Id == id })
			if at >= 0 && l[at].Hour == -1 {
				want = 0
				for _, x := range l {
					if x.Hour == -1 && (x.At < l[at].At || x.At == l[at].At && x.Id < id) {
						want++
					}
				}
			}
			arg, unchanged := guarded(l, ticket(id, 0, -1))
			checkValue(t, impl.BeforeIn(arg, id), want, "BeforeIn(%v, %d)", l, id)
			unchanged(t)
		}
	}
	l := someTickets()[7]
	for id, want := range []int{-1, 2, 0, -1, 3, -1, 1, -1} {
		checkValue(t, impl.BeforeIn(l, id), want, "BeforeIn(.., %d)", id)
	}
}
