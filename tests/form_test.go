package tests

import (
	"fmt"
	"math"
	"strings"
	"testing"

	"loop.example/g03007/impl"
)

func wantListText(l []int) string {
	if len(l) == 0 {
		return "-"
	}
	return strings.ReplaceAll(strings.Trim(fmt.Sprint(l), "[]"), " ", ",")
}

func wantReportText(r impl.Report) string {
	return fmt.Sprintf("%d %s %s %d-%d %s %d-%d", r.Id, kindTexts[r.Kind], wantListText(r.Colours), r.SizeLow, r.SizeHigh, wantListText(r.Places), r.Span.From, r.Span.Until)
}

var someLists = [][]int{nil, {}, {0}, {7}, {3, 1, 40}, {5, 5}, {0, 0, 0}, {1000000000000}, {999999999999, 0, 10}, {1, 2, 3, 4, 5, 6, 7, 8, 9, 10, 11, 12}}

func TestListText(t *testing.T) {
	for _, l := range append(someLists, []int{3, -1}, []int{-1}, []int{math.MinInt, math.MaxInt}) {
		arg, unchanged := guarded(l, 5)
		checkValue(t, impl.ListText(arg), wantListText(l), "ListText(%v)", l)
		unchanged(t)
	}
}

func checkParseList(t *testing.T, s string, want []int, wantOk bool) {
	t.Helper()
	got, ok := impl.ParseList(s)
	checkList(t, got, want, "ParseList(%q)", s)
	checkValue(t, ok, wantOk, "ParseList(%q)", s)
}

func TestParseList(t *testing.T) {
	for _, l := range someLists {
		checkParseList(t, wantListText(l), l, true)
	}
	for _, s := range []string{
		"", " ", ",", ",,", "1,", ",1", "1,,2", "01", "1,02", "00", "a", "1,a", "1, 2", "1 ,2", " 1", "1 ", "--", "-,-", "-,1", "1,-", "-1", "3,-1", "+1", "1.5", "1;2", "1\n", "1,2\n",
		"1000000000001", "1,1000000000001", "9223372036854775808", "18446744073709551616", "0x1", "1_0", "١", "- ",
	} {
		checkParseList(t, s, nil, false)
	}
}

func TestAllShortLists(t *testing.T) {
	// Whatever is read has its own text.
	const letters = "0127,- "
	for n := range 7 * 7 * 7 * 7 {
		s := string([]byte{letters[n%7], letters[n/7%7], letters[n/49%7], letters[n/343]})
		for size := range 5 {
			l, ok := impl.ParseList(s[:size])
			if ok && impl.ListText(l) != s[:size] {
				t.Errorf("ParseList(%q) = %v", s[:size], l)
			}
		}
	}
}

// formReports has all combinations of lists that are empty or not, at the limits, too.
func formReports() []impl.Report {
	l := append(atLimits(bagReport(7), reportFields), rivals()...)
	for kind := impl.KdBag; kind <= impl.KdOther; kind++ {
		for _, colours := range [][]int{nil, {0}, everyColour} {
			for _, places := range [][]int{nil, {30}, tenPlaces} {
				l = append(l, impl.Report{Id: 999, Kind: kind, Colours: colours, SizeLow: 1, SizeHigh: 50, Places: places, Span: span(0, impl.MaxHour)})
			}
		}
	}
	return l
}

func TestReportsAreReadFromTheirText(t *testing.T) {
	for _, r := range formReports() {
		arg, unchanged := guardedReport(r)
		s := impl.ReportText(arg)
		checkValue(t, s, wantReportText(r), "ReportText(%+v)", r)
		unchanged(t)
		got, ok := impl.ParseReport(s)
		checkReport(t, got, r, "ParseReport(%q)", s)
		checkValue(t, ok, true, "ParseReport(%q)", s)
	}
	checkValue(t, impl.ReportText(bagReport(7)), "7 bag 2,3 4-9 1,5 20-31", "ReportText")
}

func TestReportsWithListsThatAreEmpty(t *testing.T) {
	for _, r := range []impl.Report{vagueReport(3), {Id: 3, Kind: 1, Colours: []int{}, Places: []int{}, SizeLow: 1, SizeHigh: 50}} {
		checkValue(t, impl.ReportText(r), "3 bag - 1-50 - 0-0", "ReportText(%+v)", r)
	}
	r, ok := impl.ParseReport("3 bag - 1-50 - 0-0")
	checkReport(t, r, vagueReport(3), "ParseReport")
	checkValue(t, ok, true, "ParseReport")
	for _, s := range []string{"3 bag  1-50 - 0-0", "3 bag - 1-50  0-0", "3 bag 1-50 - 0-0", "3 bag - 1-50 0-0", "3 bag 0 1-50 0 0-0", "3 bag -1 1-50 - 0-0", "3 bag - 1-50 -- 0-0", "3 bag -,- 1-50 - 0-0"} {
		checkNoReport(t, s)
	}
}

func checkNoReport(t *testing.T, s string) {
	t.Helper()
	r, ok := impl.ParseReport(s)
	checkReport(t, r, impl.Report{}, "ParseReport(%q)", s)
	checkValue(t, ok, false, "ParseReport(%q)", s)
}

func TestTextsOfInvalidReports(t *testing.T) {
	for _, r := range invalidReports() {
		checkValue(t, impl.ReportText(r), "", "ReportText(%+v)", r)
		if r.Kind >= 1 && r.Kind <= 8 {
			checkNoReport(t, wantReportText(r))
		}
	}
	for _, s := range []string{
		"", " ", "     ", "- - - - - -", "7", "7 bag 2,3 4-9 1,5", "7 bag 2,3 4-9 1,5 ", "7 bag 2,3 4-9 1,5 20", "7 bag 2,3 4-9 1,5 20-", "7 bag 2,3 4-9 1,5 -31", "7 bag 2,3 4 1,5 20-31",
		"7 bag 2,3 -9 1,5 20-31", "7 bag 2,3 4- 1,5 20-31", "7 bag 2,3 - 1,5 20-31", "7 bag 2,3 4-9 1,5 20-31-40", "7 bag 2,3 4-9-9 1,5 20-31", "7 bag 2,3 4--9 1,5 20-31", "7 bag 2,3 4-9 1,5 20-31 -", "7 bag 2,3 4-9 1,5 20-31 7",
		"7 box 2,3 4-9 1,5 20-31", "7 Bag 2,3 4-9 1,5 20-31", "7  2,3 4-9 1,5 20-31", "7 1 2,3 4-9 1,5 20-31", "bag 7 2,3 4-9 1,5 20-31", "x bag 2,3 4-9 1,5 20-31", "-7 bag 2,3 4-9 1,5 20-31",
		"7 bag 2,3, 4-9 1,5 20-31", "7 bag ,2 4-9 1,5 20-31", "7 bag 2;3 4-9 1,5 20-31", "7 bag 2, 3 4-9 1,5 20-31", "7 bag 2,3 4 - 9 1,5 20-31", "7 bag 2,3 4-9 1,x 20-31", "7\tbag 2,3 4-9 1,5 20-31",
	} {
		checkNoReport(t, s)
	}
}

func TestTextsWithOneOtherByte(t *testing.T) {
	// Of all texts that differ from a report's in one byte, just those are read that are a report's own, too.
	for _, whole := range []string{"7 bag 2,3 4-9 1,5 20-31", "3 other - 1-50 - 0-0"} {
		for i := range len(whole) + 1 {
			variants := []string{whole[:i]}
			for _, c := range []string{" ", "-", ",", "0", "1", "9", "a", "+", "\n", "\x00"} {
				variants = append(variants, whole[:i]+c+whole[i:])
				if i < len(whole) {
					variants = append(variants, whole[:i]+c+whole[i+1:], whole[:i]+whole[i+1:])
				}
			}
			for _, s := range variants {
				r, ok := impl.ParseReport(s)
				if ok && impl.ReportText(r) != s || !ok && !isSameReport(r, impl.Report{}) {
					t.Errorf("ParseReport(%q) = %+v, %v", s, r, ok)
				}
			}
		}
	}
}

func TestKindOf(t *testing.T) {
	for kind, s := range kindTexts {
		checkValue(t, impl.KindOf(s), kind, "KindOf(%q)", s)
		if kind > 0 {
			for _, other := range []string{s + " ", " " + s, s[1:], s[:len(s)-1], strings.ToUpper(s), s + "s", s + s} {
				checkValue(t, impl.KindOf(other), 0, "KindOf(%q)", other)
			}
		}
	}
	for _, s := range []string{"1", "black", "box", "-", "ba", "\x00", "bag\x00"} {
		checkValue(t, impl.KindOf(s), 0, "KindOf(%q)", s)
	}
}

func TestFindText(t *testing.T) {
	for _, f := range findsToRemember() {
		x := f.Thing
		want := fmt.Sprintf("%d %s %s %d @%d +%d by %d", x.Id, colourTexts[x.Colour], kindTexts[x.Kind], x.Size, f.Place, f.At, f.Finder)
		checkValue(t, impl.FindText(f), want, "FindText(%+v)", f)
	}
	checkValue(t, impl.FindText(findOf(2, 5, 40)), "2 green bag 4 @5 +40 by 0", "FindText")
	for _, f := range invalidFinds() {
		checkValue(t, impl.FindText(f), "", "FindText(%+v)", f)
	}
}
