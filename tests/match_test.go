package tests

import (
	"slices"
	"testing"

	"loop.example/g03007/impl"
)

// someReports has the edges of reports within which or just beyond which someFinds are.
func someReports() []impl.Report {
	var l []impl.Report
	for _, colours := range [][]int{nil, {3}, {2, 3}, {2, 4}, {0, 3, 7}} {
		for _, places := range [][]int{nil, {5}, {1, 5}, {1, 6}, {4, 5, 6}} {
			for _, sizes := range [][2]int{{1, 50}, {4, 9}, {3, 9}, {4, 4}, {5, 5}, {2, 3}} {
				for _, s := range []impl.Span{span(0, 0), span(20, 31), span(56, 90)} {
					l = append(l, impl.Report{Id: 7, Kind: impl.KdBag, Colours: colours, SizeLow: sizes[0], SizeHigh: sizes[1], Places: places, Span: s})
				}
			}
		}
	}
	return append(l, impl.Report{}, impl.Report{Id: 7, Kind: impl.KdCoat, SizeLow: 1, SizeHigh: 50}, impl.Report{Id: 7, Kind: impl.KdBag, SizeLow: 9, SizeHigh: 4})
}

func someFinds() []impl.Find {
	var l []impl.Find
	for _, colour := range []int{2, 3} {
		for _, size := range []int{3, 4, 5, 9, 10} {
			for _, place := range []int{1, 5} {
				for _, hour := range []int{0, 19, 20, 24, 25, 31, 55, 56, 114, 115} {
					f := findOf(2, place, hour)
					f.Thing.Colour, f.Thing.Size = colour, size
					l = append(l, f)
				}
			}
		}
	}
	coat := findOf(2, 5, 40)
	coat.Thing.Kind = impl.KdCoat
	return append(l, coat, impl.Find{}, findOf(0, 5, 40), findOf(2, 0, 40), findOf(2, 5, -1))
}

// wantWhyNot is the first reason that is against a find.
func wantWhyNot(r impl.Report, f impl.Find) string {
	switch {
	case !impl.IsReport(r) || !impl.IsFind(f):
		return "invalid"
	case r.Kind != f.Thing.Kind:
		return "kind"
	case len(r.Colours) > 0 && !slices.Contains(r.Colours, f.Thing.Colour):
		return "colour"
	case f.Thing.Size < r.SizeLow || f.Thing.Size > r.SizeHigh:
		return "size"
	case len(r.Places) > 0 && !slices.Contains(r.Places, f.Place):
		return "place"
	case f.At < r.Span.From:
		return "time"
	}
	return ""
}

func wantScore(r impl.Report, f impl.Find) int {
	if wantWhyNot(r, f) != "" {
		return 0
	}
	score := 1
	if len(r.Colours) == 1 || len(r.Colours) == 2 {
		score++
	}
	if r.SizeHigh-r.SizeLow < 6 {
		score++
	}
	if len(r.Places) == 1 || len(r.Places) == 2 {
		score++
	}
	if f.At < r.Span.Until+25 {
		score++
	}
	return score
}

func TestMatching(t *testing.T) {
	met := map[string]int{}
	scores := map[int]int{}
	for _, r := range someReports() {
		for _, f := range someFinds() {
			why, score := wantWhyNot(r, f), wantScore(r, f)
			met[why]++
			scores[score]++
			arg, unchanged := guardedReport(r)
			checkValue(t, impl.WhyNot(arg, f), why, "WhyNot(%+v, %+v)", r, f)
			checkValue(t, impl.CanBe(arg, f), why == "", "CanBe(%+v, %+v)", r, f)
			checkValue(t, impl.Score(arg, f), score, "Score(%+v, %+v)", r, f)
			unchanged(t)
		}
	}
	for _, why := range []string{"", "invalid", "kind", "colour", "size", "place", "time"} {
		if met[why] == 0 {
			t.Errorf("no find has the reason %q", why)
		}
	}
	for score := range 6 {
		if scores[score] == 0 {
			t.Errorf("no find has the score %d", score)
		}
	}
}

func TestFindsOnTheEdgeOfAReport(t *testing.T) {
	for why, finds := range map[string][]impl.Find{
		"":      {{Thing: impl.Thing{Id: 2, Kind: 1, Colour: 2, Size: 4}, Place: 1, At: 20}, {Thing: impl.Thing{Id: 2, Kind: 1, Colour: 3, Size: 9}, Place: 5, At: impl.MaxHour}},
		"size":  {{Thing: impl.Thing{Id: 2, Kind: 1, Colour: 2, Size: 3}, Place: 1, At: 20}, {Thing: impl.Thing{Id: 2, Kind: 1, Colour: 2, Size: 10}, Place: 1, At: 20}},
		"place": {{Thing: impl.Thing{Id: 2, Kind: 1, Colour: 2, Size: 4}, Place: 2, At: 20}, {Thing: impl.Thing{Id: 2, Kind: 1, Colour: 2, Size: 4}, Place: 4, At: 19}},
		"time":  {{Thing: impl.Thing{Id: 2, Kind: 1, Colour: 2, Size: 4}, Place: 1, At: 19}, {Thing: impl.Thing{Id: 2, Kind: 1, Colour: 3, Size: 9}, Place: 5, At: 0}},
	} {
		for _, f := range finds {
			checkValue(t, impl.WhyNot(bagReport(7), f), why, "WhyNot of %+v", f)
		}
	}
	// The sizes differ by 5 at most, and the find is 24 hours late at most.
	r := bagReport(7)
	checkValue(t, impl.Score(r, findOf(2, 5, 55)), 5, "the score of a find at the latest hour")
	checkValue(t, impl.Score(r, findOf(2, 5, 56)), 4, "the score of a find an hour later")
	r.SizeHigh = 10
	checkValue(t, impl.Score(r, findOf(2, 5, 55)), 4, "the score with one more size")
	checkValue(t, impl.Score(vagueReport(3), findOf(2, 9, 24)), 2, "the score of a vague report")
	checkValue(t, impl.Score(vagueReport(3), findOf(2, 9, 25)), 1, "the score of a vague report")
}

func TestMatchingRejects(t *testing.T) {
	for _, r := range invalidReports() {
		checkValue(t, impl.WhyNot(r, findOf(2, 5, 40)), "invalid", "WhyNot(%+v, ..)", r)
		checkValue(t, impl.CanBe(r, findOf(2, 5, 40)), false, "CanBe(%+v, ..)", r)
		checkValue(t, impl.Score(r, findOf(2, 5, 40)), 0, "Score(%+v, ..)", r)
		checkList(t, impl.Candidates(r, findsFrom(1, 20)), nil, "Candidates(%+v, ..)", r)
		checkValue(t, impl.BestOf(r, findsFrom(1, 20)), 0, "BestOf(%+v, ..)", r)
	}
	for _, f := range invalidFinds() {
		r := vagueReport(7)
		r.Kind = f.Thing.Kind
		checkValue(t, impl.WhyNot(r, f), "invalid", "WhyNot(.., %+v)", f)
		checkValue(t, impl.CanBe(r, f), false, "CanBe(.., %+v)", f)
		checkValue(t, impl.Score(r, f), 0, "Score(.., %+v)", f)
		checkList(t, impl.Seekers(f, []impl.Report{r}), nil, "Seekers(%+v, ..)", f)
	}
}

// numbered gives the finds ascending Ids.
func numbered(finds []impl.Find) []impl.Find {
	var l []impl.Find
	for i, f := range finds {
		f.Thing.Id = 3*i + 1
		l = append(l, f)
	}
	return l
}

func TestCandidatesAndBestOf(t *testing.T) {
	finds := slices.DeleteFunc(someFinds(), func(f impl.Find) bool { return !impl.IsFind(f) })
	for _, r := range someReports() {
		for chunk := range slices.Chunk(finds, 20) {
			l := numbered(chunk)
			var want []int
			best, bestScore := 0, 0
			for _, f := range l {
				if wantWhyNot(r, f) == "" {
					want = append(want, f.Thing.Id)
				}
				if score := wantScore(r, f); score > bestScore {
					best, bestScore = f.Thing.Id, score
				}
			}
			arg, unchanged := guarded(l, findOf(998, 5, 40))
			checkList(t, impl.Candidates(r, arg), want, "Candidates(%+v, %+v)", r, l)
			checkValue(t, impl.BestOf(r, arg), best, "BestOf(%+v, %+v)", r, l)
			unchanged(t)
		}
	}
}

func TestCandidatesRejects(t *testing.T) {
	r := vagueReport(3)
	a, b := findOf(2, 5, 20), findOf(4, 1, 20)
	for _, l := range [][]impl.Find{nil, {}, {b, a}, {a, a}, {a, findOf(5, 0, 20)}, findsFrom(1, 21)} {
		checkList(t, impl.Candidates(r, l), nil, "Candidates(.., %+v)", l)
		checkValue(t, impl.BestOf(r, l), 0, "BestOf(.., %+v)", l)
	}
	checkValue(t, impl.BestOf(r, []impl.Find{a, b}), 2, "BestOf of two with the same score")
	checkValue(t, impl.BestOf(bagReport(7), findsFrom(1, 1)), 0, "BestOf of a find that is too early")
}

func TestSeekers(t *testing.T) {
	reports := slices.DeleteFunc(someReports(), func(r impl.Report) bool { return !impl.IsReport(r) })
	for chunk := range slices.Chunk(reports, 20) {
		for i := range chunk {
			chunk[i].Id = 2*i + 5
		}
		for _, f := range someFinds() {
			var want []int
			for _, r := range chunk {
				if wantWhyNot(r, f) == "" {
					want = append(want, r.Id)
				}
			}
			checkList(t, impl.Seekers(f, chunk), want, "Seekers(%+v, ..)", f)
		}
	}
	f := findOf(2, 5, 40)
	checkList(t, impl.Seekers(f, []impl.Report{vagueReport(3), bagReport(7)}), []int{3, 7}, "Seekers")
	for _, l := range [][]impl.Report{nil, {bagReport(7), vagueReport(3)}, {bagReport(7), bagReport(7)}, {vagueReport(3), {}}, reportsFrom(1, 21)} {
		checkList(t, impl.Seekers(f, l), nil, "Seekers(.., %+v)", l)
	}
}
