package tests

import (
	"math"
	"slices"
	"testing"

	"loop.example/g03007/impl"
)

func mark(question int, answer int) impl.Mark {
	return impl.Mark{Question: question, Answer: answer}
}

func marksFrom(question int, count int) []impl.Mark {
	var l []impl.Mark
	for i := range count {
		l = append(l, mark(question+i, 99-10*i))
	}
	return l
}

var markFields = []field[impl.Mark]{
	{1, 20, func(x *impl.Mark, n int) { x.Question = n }},
	{0, 99, func(x *impl.Mark, n int) { x.Answer = n }},
}

func someMarks() [][]impl.Mark {
	return [][]impl.Mark{nil, {}, {mark(1, 0)}, {mark(20, 99)}, {mark(2, 7), mark(5, 40), mark(9, 0)}, {mark(1, 5), mark(20, 5)}, marksFrom(1, 7), marksFrom(1, 8), marksFrom(13, 8)}
}

func invalidMarks() [][]impl.Mark {
	l := [][]impl.Mark{marksFrom(1, 9), marksFrom(1, 10), {mark(5, 4), mark(2, 7)}, {mark(5, 4), mark(5, 4)}, {mark(5, 4), mark(5, 3)}, {mark(1, 1), mark(3, 3), mark(2, 2)}, {mark(1, 1), mark(2, 2), mark(2, 2)}, {{}}}
	for _, bad := range beyondLimits(mark(5, 40), markFields) {
		l = append(l, []impl.Mark{bad}, []impl.Mark{bad, mark(20, 1)}, []impl.Mark{mark(1, 1), bad})
	}
	return l
}

func TestAreMarks(t *testing.T) {
	checkValue(t, impl.MaxMarks, 8, "MaxMarks")
	for _, l := range someMarks() {
		arg, unchanged := guarded(l, impl.Mark{})
		checkValue(t, impl.AreMarks(arg), true, "AreMarks(%v)", l)
		unchanged(t)
	}
	for _, m := range atLimits(mark(5, 40), markFields) {
		checkValue(t, impl.AreMarks([]impl.Mark{m}), true, "AreMarks(%v)", m)
	}
	for _, l := range invalidMarks() {
		checkValue(t, impl.AreMarks(l), false, "AreMarks(%v)", l)
	}
}

func TestAnswerOf(t *testing.T) {
	l := []impl.Mark{mark(5, 40), mark(2, 7), mark(9, 0), mark(5, 3), mark(0, 1), mark(-4, -9)}
	for question, want := range map[int]int{5: 40, 2: 7, 9: 0, 0: 1, -4: -9, 1: -1, 3: -1, 20: -1, math.MaxInt: -1, math.MinInt: -1} {
		arg, unchanged := guarded(l, mark(question, 77))
		checkValue(t, impl.AnswerOf(arg, question), want, "AnswerOf(%d)", question)
		unchanged(t)
	}
	checkValue(t, impl.AnswerOf(nil, 0), -1, "AnswerOf no marks")
}

var someSalts = []int{0, 1, 77, -77, impl.Modulus, 1000000, math.MaxInt, math.MinInt}

func TestSealMarks(t *testing.T) {
	for _, l := range append(someMarks(), invalidMarks()...) {
		for _, salt := range someSalts {
			values := []int{salt}
			for _, m := range l {
				values = append(values, m.Question, m.Answer)
			}
			arg, unchanged := guarded(l, mark(3, 3))
			checkValue(t, impl.SealMarks(arg, salt), wantHash(values...), "SealMarks(%v, %d)", l, salt)
			unchanged(t)
		}
	}
}

func TestOpensSeal(t *testing.T) {
	for _, l := range someMarks() {
		for _, salt := range someSalts {
			seal := impl.SealMarks(l, salt)
			checkValue(t, impl.OpensSeal(l, salt, seal), true, "OpensSeal(%v, %d, ..)", l, salt)
			for _, other := range []int{seal + 1, seal - 1, -1, seal + impl.Modulus, seal - impl.Modulus} {
				checkValue(t, impl.OpensSeal(l, salt, other), false, "OpensSeal(%v, %d, %d)", l, salt, other)
			}
			checkValue(t, impl.OpensSeal(l, salt+1, seal), false, "OpensSeal(%v, .., ..) with another salt", l)
			for i := range l {
				other := slices.Clone(l)
				other[i].Answer = (other[i].Answer + 1) % 100
				checkValue(t, impl.OpensSeal(other, salt, seal), false, "OpensSeal(%v, .., ..) with another answer", other)
			}
		}
	}
	for _, l := range invalidMarks() {
		checkValue(t, impl.OpensSeal(l, 77, impl.SealMarks(l, 77)), false, "OpensSeal(%v, ..)", l)
	}
}

var someClaims = []int{1, 2, 3, 12, 13, 14, 99, 999, 0, -1, -12, impl.Modulus, math.MaxInt, math.MinInt}

func TestQuestionFor(t *testing.T) {
	for _, l := range someMarks()[2:] {
		for _, claim := range someClaims {
			for _, n := range []int{0, 1, 2, 3, 7, 8, 9, 500, 999, 1000} {
				want := l[(wantHash(claim)%len(l)+n)%len(l)].Question
				arg, unchanged := guarded(l, mark(3, 3))
				checkValue(t, impl.QuestionFor(arg, claim, n), want, "QuestionFor(%v, %d, %d)", l, claim, n)
				unchanged(t)
			}
		}
	}
}

func TestMarksThatAreAskedAgain(t *testing.T) {
	for _, l := range someMarks()[2:] {
		for _, claim := range someClaims {
			// Any run of as many questions as there are marks has each question once, and the next run repeats it.
			for first := range 20 {
				var asked []int
				for n := range len(l) {
					question := impl.QuestionFor(l, claim, first+n)
					asked = append(asked, question)
					checkValue(t, impl.QuestionFor(l, claim, first+n+len(l)), question, "QuestionFor(%v, %d, %d)", l, claim, first+n+len(l))
				}
				slices.Sort(asked)
				var every []int
				for _, m := range l {
					every = append(every, m.Question)
				}
				checkList(t, asked, every, "the questions for claim %d from %d on", claim, first)
			}
		}
	}
	checkValue(t, impl.QuestionFor([]impl.Mark{mark(2, 7)}, 99, 1000), 2, "QuestionFor with one mark")
}

func TestQuestionForRejects(t *testing.T) {
	for _, n := range []int{-1, -2, 1001, 1002, math.MinInt, math.MaxInt} {
		for _, l := range someMarks() {
			checkValue(t, impl.QuestionFor(l, 12, n), 0, "QuestionFor(%v, 12, %d)", l, n)
		}
	}
	for _, l := range append(invalidMarks(), nil, []impl.Mark{}) {
		for n := range 12 {
			checkValue(t, impl.QuestionFor(l, 12, n), 0, "QuestionFor(%v, 12, %d)", l, n)
		}
	}
}

// checkPutMark also checks that the result is new memory.
func checkPutMark(t *testing.T, l []impl.Mark, m impl.Mark, want []impl.Mark, wantOk bool) {
	t.Helper()
	arg, unchanged := guarded(l, mark(20, 20))
	got, ok := impl.PutMark(arg, m)
	checkList(t, got, want, "PutMark(%v, %v)", l, m)
	checkValue(t, ok, wantOk, "PutMark(%v, %v)", l, m)
	overwrite(got, mark(-1, -1))
	unchanged(t)
}

func TestPutMark(t *testing.T) {
	for _, questions := range [][]int{{1, 2, 3, 4}, {4, 3, 2, 1}, {2, 4, 1, 3}, {3, 1, 4, 2}, {20, 1, 10, 2}} {
		var l []impl.Mark
		for i, question := range questions {
			want := append(slices.Clone(l), mark(question, 10*i))
			slices.SortFunc(want, func(a, b impl.Mark) int { return a.Question - b.Question })
			checkPutMark(t, l, mark(question, 10*i), want, true)
			l = want
		}
		for i := range l {
			want := slices.Clone(l)
			want[i].Answer = 99
			checkPutMark(t, l, want[i], want, true)
		}
	}
}

func TestPutMarkLimits(t *testing.T) {
	checkPutMark(t, marksFrom(2, 7), mark(1, 0), slices.Insert(marksFrom(2, 7), 0, mark(1, 0)), true)
	full := marksFrom(2, 8)
	checkPutMark(t, full, mark(1, 0), full, false)
	checkPutMark(t, full, mark(10, 0), full, false)
	want := slices.Clone(full)
	want[7].Answer = 1
	checkPutMark(t, full, mark(9, 1), want, true)
	for _, m := range atLimits(mark(5, 40), markFields) {
		checkPutMark(t, nil, m, []impl.Mark{m}, true)
	}
	for _, m := range beyondLimits(mark(5, 40), markFields) {
		checkPutMark(t, nil, m, nil, false)
		checkPutMark(t, full, m, full, false)
	}
}

func TestPutMarkIntoAnInvalidList(t *testing.T) {
	for _, bad := range [][]impl.Mark{{mark(9, 1), mark(5, 1)}, {mark(5, 1), mark(5, 1)}, {mark(5, 1), mark(6, 100)}, {{}}, marksFrom(1, 9)} {
		for _, question := range []int{1, 5, 7, 9, 20} {
			checkPutMark(t, bad, mark(question, 3), bad, false)
		}
	}
	// The one mark that is against the list is replaced.
	checkPutMark(t, []impl.Mark{mark(2, 2), mark(5, 100), mark(7, 7)}, mark(5, 3), []impl.Mark{mark(2, 2), mark(5, 3), mark(7, 7)}, true)
	checkPutMark(t, []impl.Mark{mark(5, -1)}, mark(5, 3), []impl.Mark{mark(5, 3)}, true)
}
