package tests

import (
	"math"
	"testing"

	"loop.example/g03007/impl"
)

func trial(claim int, right int, wrong int) impl.Trial {
	return impl.Trial{Claim: claim, Asked: right + wrong, Right: right, Wrong: wrong}
}

func invalidTrials() []impl.Trial {
	l := []impl.Trial{
		{}, {Claim: 5, Asked: 1}, {Claim: 5, Right: 1}, {Claim: 5, Wrong: 1}, {Claim: 5, Asked: 2, Right: 1}, {Claim: 5, Asked: 3, Right: 1, Wrong: 1}, {Claim: 5, Asked: -1},
	}
	for _, claim := range []int{0, -1, 1000, 1001, math.MinInt, math.MaxInt} {
		l = append(l, trial(claim, 0, 0), trial(claim, 3, 0))
	}
	for _, n := range []int{-1, -2, 101, 102, math.MinInt, math.MaxInt} {
		l = append(l, trial(5, n, 0), trial(5, 0, n), trial(5, n, n), trial(5, n, -n), trial(5, 3, n), trial(5, n, 1))
	}
	return l
}

func TestTrialConstants(t *testing.T) {
	checkList(t, []int{impl.NeedRight, impl.MayWrong, impl.TrOpen, impl.TrProved, impl.TrFailed}, []int{3, 1, 0, 1, 2}, "the constants")
}

func TestIsTrial(t *testing.T) {
	for _, claim := range []int{1, 2, 500, 998, 999} {
		for _, right := range []int{0, 1, 50, 99, 100} {
			for _, wrong := range []int{0, 1, 50, 99, 100} {
				x := trial(claim, right, wrong)
				checkValue(t, impl.IsTrial(x), true, "IsTrial(%+v)", x)
				for _, d := range []int{-1, 1, 100, math.MinInt} {
					y := x
					y.Asked += d
					checkValue(t, impl.IsTrial(y), false, "IsTrial(%+v)", y)
				}
			}
		}
	}
	for _, x := range invalidTrials() {
		checkValue(t, impl.IsTrial(x), false, "IsTrial(%+v)", x)
	}
}

func TestNeedFor(t *testing.T) {
	for count, want := range []int{0, 1, 2, 3, 3, 3, 3, 3, 3, 3, 3} {
		checkValue(t, impl.NeedFor(marksFrom(1, count)), want, "NeedFor %d marks", count)
		checkValue(t, impl.NeedFor(make([]impl.Mark, count)), want, "NeedFor %d marks that are not valid", count)
	}
}

func wantState(marks int, right int, wrong int) int {
	switch {
	case wrong >= 2:
		return impl.TrFailed
	case marks > 0 && (right >= 3 || right >= marks):
		return impl.TrProved
	}
	return impl.TrOpen
}

func TestTrialStateAndNextQuestion(t *testing.T) {
	for marks := range 9 {
		l := marksFrom(3, marks)
		for _, claim := range []int{1, 12, 999} {
			for _, right := range []int{0, 1, 2, 3, 4, 100} {
				for _, wrong := range []int{0, 1, 2, 3, 100} {
					x := trial(claim, right, wrong)
					state, question := wantState(marks, right, wrong), 0
					if state == impl.TrOpen && marks > 0 {
						question = l[(wantHash(claim)+right+wrong)%marks].Question
					}
					arg, unchanged := guarded(l, mark(2, 2))
					checkValue(t, impl.TrialState(arg, x), state, "TrialState of %+v with %d marks", x, marks)
					checkValue(t, impl.NextQuestion(arg, x), question, "NextQuestion of %+v with %d marks", x, marks)
					unchanged(t)
				}
			}
		}
	}
}

func TestTrialsThatAreNotValid(t *testing.T) {
	check := func(l []impl.Mark, x impl.Trial) {
		t.Helper()
		checkValue(t, impl.TrialState(l, x), impl.TrFailed, "TrialState(%v, %+v)", l, x)
		checkValue(t, impl.NextQuestion(l, x), 0, "NextQuestion(%v, %+v)", l, x)
		for _, answer := range []int{-1, 0, 40, 99} {
			got, ok := impl.GiveAnswer(l, x, answer)
			checkValue(t, got, x, "GiveAnswer(%v, %+v, %d)", l, x, answer)
			checkValue(t, ok, false, "GiveAnswer(%v, %+v, %d)", l, x, answer)
		}
		checkValue(t, impl.AnswerAll(l, x, []int{99, 89, 79, 69}), x, "AnswerAll(%v, %+v, ..)", l, x)
	}
	for _, x := range invalidTrials() {
		check(marksFrom(3, 8), x)
		check(nil, x)
	}
	for _, l := range invalidMarks() {
		check(l, trial(12, 0, 0))
		check(l, trial(12, 3, 0))
	}
}

// checkGiveAnswer gives an answer that is right or not.
func checkGiveAnswer(t *testing.T, l []impl.Mark, x impl.Trial, isRight bool, want impl.Trial) {
	t.Helper()
	rightAnswer := impl.AnswerOf(l, impl.NextQuestion(l, x))
	for answer := -1; answer <= 101; answer++ {
		if (answer == rightAnswer) == isRight {
			arg, unchanged := guarded(l, mark(2, 2))
			got, ok := impl.GiveAnswer(arg, x, answer)
			checkValue(t, got, want, "GiveAnswer(%v, %+v, %d)", l, x, answer)
			checkValue(t, ok, true, "GiveAnswer(%v, %+v, %d)", l, x, answer)
			unchanged(t)
		}
	}
}

func TestGiveAnswer(t *testing.T) {
	for marks := 1; marks <= 8; marks++ {
		l := marksFrom(3, marks)
		for _, claim := range []int{1, 12, 999} {
			for right := range 4 {
				for wrong := range 3 {
					x := trial(claim, right, wrong)
					if wantState(marks, right, wrong) == impl.TrOpen {
						checkGiveAnswer(t, l, x, true, trial(claim, right+1, wrong))
						checkGiveAnswer(t, l, x, false, trial(claim, right, wrong+1))
						continue
					}
					for answer := -1; answer <= 101; answer++ {
						got, ok := impl.GiveAnswer(l, x, answer)
						checkValue(t, got, x, "GiveAnswer(%v, %+v, %d)", l, x, answer)
						checkValue(t, ok, false, "GiveAnswer(%v, %+v, %d)", l, x, answer)
					}
				}
			}
		}
	}
	_, ok := impl.GiveAnswer(nil, trial(12, 0, 0), 0)
	checkValue(t, ok, false, "GiveAnswer without marks")
	_, ok = impl.GiveAnswer(nil, trial(12, 0, 0), -1)
	checkValue(t, ok, false, "GiveAnswer without marks")
}

func TestTrialsWithOneMark(t *testing.T) {
	l := []impl.Mark{mark(4, 30)}
	for _, claim := range []int{1, 2, 3, 999} {
		x := trial(claim, 0, 0)
		checkValue(t, impl.NextQuestion(l, x), 4, "the question")
		checkValue(t, impl.TrialState(l, impl.AnswerAll(l, x, []int{30})), impl.TrProved, "the state after a right answer")
		once := impl.AnswerAll(l, x, []int{31})
		checkValue(t, impl.TrialState(l, once), impl.TrOpen, "the state after a wrong answer")
		checkValue(t, impl.NextQuestion(l, once), 4, "the question that is asked again")
		checkValue(t, impl.AnswerAll(l, once, []int{30, 31}), trial(claim, 1, 1), "the trial that is proved in the end")
		checkValue(t, impl.AnswerAll(l, once, []int{29, 30}), trial(claim, 0, 2), "the trial that failed")
	}
}

func TestRightAnswersProveAndTwoWrongOnesFail(t *testing.T) {
	for marks := 1; marks <= 8; marks++ {
		l := marksFrom(3, marks)
		for pattern := range 64 {
			x, right, wrong := trial(12, 0, 0), 0, 0
			var answers []int
			for i := range 6 {
				isRight := pattern>>i&1 == 1
				answer := 100
				if wantState(marks, right, wrong) == impl.TrOpen {
					if isRight {
						answer = impl.AnswerOf(l, l[(wantHash(12)+right+wrong)%marks].Question)
						right++
					} else {
						wrong++
					}
				}
				answers = append(answers, answer)
			}
			arg, unchanged := guarded(answers, 5)
			got := impl.AnswerAll(l, x, arg)
			checkValue(t, got, trial(12, right, wrong), "AnswerAll(%v, %+v, %v)", l, x, answers)
			checkValue(t, impl.TrialState(l, got), wantState(marks, right, wrong), "the state of %+v", got)
			unchanged(t)
		}
	}
	checkValue(t, impl.AnswerAll(marksFrom(3, 4), trial(12, 1, 1), nil), trial(12, 1, 1), "AnswerAll without answers")
}
