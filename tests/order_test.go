package tests

import (
	"cmp"
	"fmt"
	"math"
	"slices"
	"testing"

	"loop.example/g03007/impl"
)

func task(thing int, fate int, day int) impl.Task {
	return impl.Task{Thing: thing, Fate: fate, Day: day}
}

// taskFinds has finds of all kinds, of different worths and finders; each has another fate in time.
func taskFinds() []impl.Find {
	var l []impl.Find
	for i, f := range findOfEach(0) {
		f.At = 300 * (i % 4)
		f.Thing.Worth = []int{900, 0, 6000}[i%3]
		f.Finder = i % 2 * 7
		l = append(l, f)
	}
	return l
}

func taskClaims() [][]impl.Claim {
	return [][]impl.Claim{
		nil,
		{claim(1, 5, 20, 0, impl.ClProved)},
		{claim(1, 5, 10, 0, impl.ClOpen), claim(2, 5, 30, 0, impl.ClProved), claim(3, 6, 80, 0, impl.ClFailed), claim(4, 5, 70, 0, impl.ClProved)},
	}
}

var taskHours = []int{0, 1, 23, 24, 47, 100, 2159, 2160, 2165, 2184, 2460, 4320, 5000, 99999, 100000}

var someWeeks = [][]bool{weekWith(127), weekWith(1), weekWith(64), weekWith(2 + 4 + 16), weekWith(1 + 2 + 8 + 16)}

func wantTask(f impl.Find, l []impl.Claim, open []bool, now int) impl.Task {
	fate := wantFate(f, l, now)
	day := now / 24
	switch fate {
	case impl.FtServe:
		day = wantOpen(open, now/24)
	case impl.FtKeep:
		day = wantOpen(open, (f.At+24*wantDays[f.Thing.Kind])/24)
	}
	return task(f.Thing.Id, fate, day)
}

func TestEverythingHasATask(t *testing.T) {
	met := map[int]bool{}
	for _, now := range taskHours {
		for _, open := range someWeeks {
			for _, l := range taskClaims() {
				for _, f := range taskFinds() {
					want := wantTask(f, l, open, now)
					met[want.Fate] = true
					claims, sameClaims := guarded(l, claim(50, 5, f.Thing.Id, 0, impl.ClProved))
					week, sameWeek := guarded(open, true)
					checkValue(t, impl.TaskOf(f, claims, week, now), want, "TaskOf(%+v, %+v, %v, %d)", f, l, open, now)
					sameClaims(t)
					sameWeek(t)
				}
			}
		}
	}
	checkValue(t, len(met), 6, "the number of fates that were met")
}

func TestTasksForAClosedDay(t *testing.T) {
	// The day 90 is closed, and the next open one is 91.
	open := weekWith(1 + 2 + 8 + 16)
	now := 2165
	for _, c := range []struct {
		f    impl.Find
		want impl.Task
	}{
		{impl.Find{Thing: impl.Thing{Id: 2, Kind: impl.KdBag, Size: 4, Worth: 900}, Place: 1, Finder: 7}, task(2, impl.FtFinder, 90)},
		{impl.Find{Thing: impl.Thing{Id: 4, Kind: impl.KdFood, Size: 4, Worth: 900}, Place: 1}, task(4, impl.FtThrow, 90)},
		{impl.Find{Thing: impl.Thing{Id: 5, Kind: impl.KdCoat, Size: 4, Worth: 5001}, Place: 1}, task(5, impl.FtSell, 90)},
		{impl.Find{Thing: impl.Thing{Id: 6, Kind: impl.KdCoat, Size: 4, Worth: 5000}, Place: 1}, task(6, impl.FtGive, 90)},
		{impl.Find{Thing: impl.Thing{Id: 7, Kind: impl.KdKeys, Size: 4, Worth: 900}, Place: 1, At: 6}, task(7, impl.FtKeep, 91)},
		{impl.Find{Thing: impl.Thing{Id: 8, Kind: impl.KdCoat, Size: 4, Worth: 900}, Place: 1}, task(8, impl.FtServe, 91)},
	} {
		l := []impl.Claim{claim(1, 5, 8, 0, impl.ClProved)}
		checkValue(t, impl.TaskOf(c.f, l, open, now), c.want, "TaskOf(%+v, ..)", c.f)
	}
	// What is still claimed is kept, and its last day can be past.
	kept := findOf(2, 1, 0)
	checkValue(t, impl.TaskOf(kept, []impl.Claim{claim(1, 5, 2, 0, impl.ClOpen)}, open, 90000), task(2, impl.FtKeep, 91), "TaskOf what is claimed")
}

func TestTaskOfRejects(t *testing.T) {
	f := findOf(2, 5, 40)
	for _, g := range invalidFinds() {
		checkValue(t, impl.TaskOf(g, nil, weekWith(127), 50), impl.Task{}, "TaskOf(%+v, ..)", g)
		checkValue(t, impl.TaskOf(g, []impl.Claim{claim(1, 5, g.Thing.Id, 0, impl.ClProved)}, weekWith(127), 50), impl.Task{}, "TaskOf(%+v, ..)", g)
	}
	for _, open := range invalidCalendars {
		for _, now := range []int{0, 50, 5000} {
			checkValue(t, impl.TaskOf(f, nil, open, now), impl.Task{}, "TaskOf(.., %v, %d)", open, now)
		}
	}
	for _, now := range []int{-1, -24, math.MinInt, 100001, math.MaxInt} {
		checkValue(t, impl.TaskOf(f, nil, weekWith(127), now), impl.Task{}, "TaskOf(.., %d)", now)
	}
}

func TestTasksFor(t *testing.T) {
	for _, now := range taskHours {
		for _, open := range someWeeks {
			for _, l := range taskClaims() {
				var want []impl.Task
				for _, f := range taskFinds() {
					want = append(want, wantTask(f, l, open, now))
				}
				slices.SortFunc(want, func(a, b impl.Task) int {
					return cmp.Compare(1000000*a.Day+10000*a.Fate+a.Thing, 1000000*b.Day+10000*b.Fate+b.Thing)
				})
				finds, sameFinds := guarded(taskFinds(), leastFind)
				claims, sameClaims := guarded(l, impl.Claim{})
				checkList(t, impl.TasksFor(finds, claims, open, now), want, "TasksFor(.., %+v, %v, %d)", l, open, now)
				sameFinds(t)
				sameClaims(t)
			}
		}
	}
	checkList(t, impl.TasksFor(nil, nil, weekWith(1), 5), nil, "TasksFor no finds")
	checkValue(t, len(impl.TasksFor(findsFrom(1, 20), nil, weekWith(1), 5)), 20, "the number of TasksFor 20 finds")
}

func TestTasksForRejects(t *testing.T) {
	f, open := taskFinds(), weekWith(127)
	for _, l := range invalidFindLists() {
		checkList(t, impl.TasksFor(l, nil, open, 5), nil, "TasksFor(%+v, ..)", l)
	}
	for _, l := range invalidClaims() {
		checkList(t, impl.TasksFor(f, l, open, 5), nil, "TasksFor(.., %+v, ..)", l)
	}
	for _, bad := range invalidCalendars {
		checkList(t, impl.TasksFor(f, nil, bad, 5), nil, "TasksFor(.., %v, 5)", bad)
	}
	for _, now := range []int{-1, math.MinInt, 100001, math.MaxInt} {
		checkList(t, impl.TasksFor(f, nil, open, now), nil, "TasksFor(.., %d)", now)
	}
}

func someTasks() []impl.Task {
	var l []impl.Task
	for fate := -1; fate <= 6; fate++ {
		for _, day := range []int{91, -5, 0, 90, 89, 4166, 4167} {
			l = append(l, task(fate+day, fate, day))
		}
	}
	return l
}

func TestToday(t *testing.T) {
	for _, now := range append(taskHours, 2159, 2160, 2183, 2184) {
		var want []impl.Task
		for _, x := range someTasks() {
			if 24*x.Day <= now && x.Fate != impl.FtKeep {
				want = append(want, x)
			}
		}
		arg, unchanged := guarded(someTasks(), task(1, impl.FtGive, 0))
		checkList(t, impl.Today(arg, now), want, "Today(.., %d)", now)
		checkValue(t, impl.Quiet(arg, now), false, "Quiet(.., %d)", now)
		unchanged(t)
	}
	for _, now := range []int{-1, -2, math.MinInt, 100001, 100002, math.MaxInt} {
		checkList(t, impl.Today(someTasks(), now), nil, "Today(.., %d)", now)
		checkValue(t, impl.Quiet(someTasks(), now), true, "Quiet(.., %d)", now)
	}
}

func TestQuiet(t *testing.T) {
	for _, c := range []struct {
		tasks []impl.Task
		now   int
		want  bool
	}{
		{nil, 50, true}, {[]impl.Task{task(2, impl.FtKeep, 0)}, 50, true}, {[]impl.Task{task(2, impl.FtGive, 3)}, 71, true}, {[]impl.Task{task(2, impl.FtGive, 3)}, 72, false},
		{[]impl.Task{task(2, impl.FtKeep, 0), task(4, impl.FtServe, 9), task(6, impl.FtThrow, 2)}, 50, false}, {[]impl.Task{task(2, impl.FtServe, 0)}, 0, false},
	} {
		arg, unchanged := guarded(c.tasks, task(1, impl.FtGive, 0))
		checkValue(t, impl.Quiet(arg, c.now), c.want, "Quiet(%v, %d)", c.tasks, c.now)
		unchanged(t)
	}
}

func TestTaskText(t *testing.T) {
	names := map[int]string{0: "keep", 1: "serve", 2: "finder", 3: "sell", 4: "give", 5: "throw"}
	for fate := -3; fate <= 9; fate++ {
		for _, thing := range []int{math.MinInt, -1, 0, 7, 999} {
			for _, day := range []int{-1, 0, 90, math.MaxInt} {
				want := ""
				if names[fate] != "" {
					want = fmt.Sprintf("%s %d on %d", names[fate], thing, day)
				}
				checkValue(t, impl.TaskText(task(thing, fate, day)), want, "TaskText of the fate %d", fate)
			}
		}
	}
}
