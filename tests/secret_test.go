package tests

import (
	"fmt"
	"math"
	"slices"
	"testing"

	"loop.example/g03007/impl"
)

func secret(thing int, salt int, marks ...impl.Mark) impl.Secret {
	return impl.Secret{Thing: thing, Marks: marks, Salt: salt}
}

// markedSecret has three marks.
func markedSecret(thing int, salt int) impl.Secret {
	return secret(thing, salt, mark(2, 7), mark(5, 40), mark(9, 0))
}

var secretFields = []field[impl.Secret]{
	{1, 999, func(x *impl.Secret, n int) { x.Thing = n }},
	{0, 1000000, func(x *impl.Secret, n int) { x.Salt = n }},
}

func secretsFrom(thing int, count int) []impl.Secret {
	var l []impl.Secret
	for i := range count {
		l = append(l, secret(thing+i, 100*i, marksFrom(i%12+1, i%8+1)...))
	}
	return l
}

func invalidSecrets() []impl.Secret {
	l := append(beyondLimits(markedSecret(7, 77), secretFields), impl.Secret{}, secret(7, 77), impl.Secret{Thing: 7, Marks: []impl.Mark{}, Salt: 77})
	for _, marks := range invalidMarks() {
		l = append(l, secret(7, 77, marks...))
	}
	return l
}

// guardedSecrets guards a list and the marks within it.
func guardedSecrets(l []impl.Secret) ([]impl.Secret, func(t *testing.T)) {
	whole := make([]impl.Secret, len(l), len(l)+4)
	var checks []func(t *testing.T)
	for i, x := range l {
		marks, unchanged := guarded(x.Marks, mark(20, 99))
		whole[i] = impl.Secret{Thing: x.Thing, Marks: marks, Salt: x.Salt}
		checks = append(checks, unchanged)
	}
	before := fmt.Sprint(whole[:cap(whole)])
	return whole, func(t *testing.T) {
		t.Helper()
		checkValue(t, fmt.Sprint(whole[:cap(whole)]), before, "the secrets of the argument")
		for _, check := range checks {
			check(t)
		}
	}
}

func overwriteSecrets(l []impl.Secret) {
	for i := range l {
		overwrite(l[i].Marks, mark(-5, -6))
	}
	overwrite(l, impl.Secret{Thing: -7})
}

// checkSecrets compares secrets independently of EqualSecrets.
func checkSecrets(t *testing.T, got []impl.Secret, want []impl.Secret, format string, args ...any) {
	t.Helper()
	checkValue(t, fmt.Sprint(got), fmt.Sprint(want), format, args...)
}

func TestAreSecrets(t *testing.T) {
	for _, l := range [][]impl.Secret{nil, {}, {markedSecret(1, 0)}, {markedSecret(999, 1000000)}, {markedSecret(2, 5), markedSecret(4, 5), secret(900, 5, mark(1, 1))}, secretsFrom(1, 19), secretsFrom(1, 20), secretsFrom(980, 20)} {
		arg, unchanged := guardedSecrets(l)
		checkValue(t, impl.AreSecrets(arg), true, "AreSecrets(%v)", l)
		unchanged(t)
	}
	for _, x := range atLimits(markedSecret(7, 77), secretFields) {
		checkValue(t, impl.AreSecrets([]impl.Secret{x}), true, "AreSecrets(%v)", x)
	}
	for _, marks := range someMarks() {
		checkValue(t, impl.AreSecrets([]impl.Secret{secret(7, 77, marks...)}), len(marks) > 0, "AreSecrets of %v", marks)
	}
	a, b, c := markedSecret(1, 5), markedSecret(2, 6), markedSecret(3, 7)
	for _, l := range [][]impl.Secret{secretsFrom(1, 21), secretsFrom(1, 22), secretsFrom(0, 2), secretsFrom(999, 2), {b, a}, {a, a}, {a, b, b}, {a, c, b}} {
		checkValue(t, impl.AreSecrets(l), false, "AreSecrets(%v)", l)
	}
	for _, x := range invalidSecrets() {
		for _, l := range [][]impl.Secret{{x}, {markedSecret(1, 5), x}, {x, markedSecret(999, 5)}} {
			checkValue(t, impl.AreSecrets(l), false, "AreSecrets(%v)", l)
		}
	}
}

func TestMarksOfAndSealOf(t *testing.T) {
	l := []impl.Secret{markedSecret(4, 77), secret(2, 5, mark(1, 1)), markedSecret(9, 78), secret(4, 5, mark(3, 3)), secret(0, 8), secret(-3, -8, mark(30, -1), mark(1, 1))}
	for _, thing := range []int{math.MinInt, -3, -1, 0, 1, 2, 3, 4, 9, 999, math.MaxInt} {
		var want []impl.Mark
		seal := -1
		if at := slices.IndexFunc(l, func(x impl.Secret) bool { return x.Thing == thing }); at >= 0 {
			want = l[at].Marks
			values := []int{l[at].Salt}
			for _, m := range want {
				values = append(values, m.Question, m.Answer)
			}
			seal = wantHash(values...)
		}
		arg, unchanged := guardedSecrets(l)
		got := impl.MarksOf(arg, thing)
		checkList(t, got, want, "MarksOf(.., %d)", thing)
		checkValue(t, impl.SealOf(arg, thing), seal, "SealOf(.., %d)", thing)
		overwrite(got, mark(7, 7))
		unchanged(t)
	}
	checkList(t, impl.MarksOf(nil, 0), nil, "MarksOf no secrets")
	checkValue(t, impl.SealOf(nil, 0), -1, "SealOf no secrets")
	checkValue(t, impl.SealOf([]impl.Secret{secret(4, 77, mark(1, 4), mark(3, 9))}, 4), impl.Hash([]int{77, 1, 4, 3, 9}), "SealOf")
}

// checkPutSecret also checks that the result is new memory, also within the secrets.
func checkPutSecret(t *testing.T, l []impl.Secret, x impl.Secret, want []impl.Secret, wantOk bool) {
	t.Helper()
	wantText := fmt.Sprint(want)
	arg, unchanged := guardedSecrets(l)
	one, sameOne := guardedSecrets([]impl.Secret{x})
	got, ok := impl.PutSecret(arg, one[0])
	checkValue(t, fmt.Sprint(got), wantText, "PutSecret(%v, %v)", l, x)
	checkValue(t, ok, wantOk, "PutSecret(%v, %v)", l, x)
	overwriteSecrets(got)
	unchanged(t)
	sameOne(t)
}

func TestPutSecret(t *testing.T) {
	for _, things := range [][]int{{1, 2, 3, 4}, {4, 3, 2, 1}, {2, 4, 1, 3}, {3, 1, 4, 2}, {999, 1, 500, 2}} {
		var l []impl.Secret
		for i, thing := range things {
			x := secret(thing, 10*i, marksFrom(i+1, i+1)...)
			want := append(slices.Clone(l), x)
			slices.SortFunc(want, func(a, b impl.Secret) int { return a.Thing - b.Thing })
			checkPutSecret(t, l, x, want, true)
			l = want
		}
		for _, x := range l {
			checkPutSecret(t, l, markedSecret(x.Thing, 1), l, false)
			checkPutSecret(t, l, x, l, false)
		}
	}
	for _, x := range atLimits(markedSecret(7, 77), secretFields) {
		checkPutSecret(t, nil, x, []impl.Secret{x}, true)
	}
}

func TestPutSecretRejects(t *testing.T) {
	l := []impl.Secret{markedSecret(2, 5), markedSecret(4, 77)}
	for _, x := range invalidSecrets() {
		checkPutSecret(t, l, x, l, false)
		checkPutSecret(t, nil, x, nil, false)
		checkPutSecret(t, []impl.Secret{x}, markedSecret(9, 5), []impl.Secret{x}, false)
	}
	checkPutSecret(t, secretsFrom(2, 19), markedSecret(1, 5), slices.Insert(secretsFrom(2, 19), 0, markedSecret(1, 5)), true)
	checkPutSecret(t, secretsFrom(2, 20), markedSecret(1, 5), secretsFrom(2, 20), false)
	// The secret would be the first one of an invalid list that is of its thing.
	bad := []impl.Secret{markedSecret(4, 5), markedSecret(2, 5)}
	checkPutSecret(t, bad, markedSecret(2, 5), bad, false)
	checkPutSecret(t, bad, markedSecret(3, 5), bad, false)
	checkPutSecret(t, bad, markedSecret(9, 5), bad, false)
}

// otherMarks has lists that differ a little from that of a marked secret.
func otherMarks() [][]impl.Mark {
	return [][]impl.Mark{
		nil, {mark(2, 7)}, {mark(2, 7), mark(5, 40)}, {mark(5, 40), mark(9, 0)}, {mark(2, 7), mark(5, 40), mark(9, 1)}, {mark(2, 8), mark(5, 40), mark(9, 0)}, {mark(2, 7), mark(5, 39), mark(9, 0)},
		{mark(3, 7), mark(5, 40), mark(9, 0)}, {mark(2, 7), mark(5, 40), mark(10, 0)}, {mark(2, 7), mark(5, 40), mark(9, 0), mark(10, 0)}, {mark(1, 0), mark(2, 7), mark(5, 40), mark(9, 0)}, {mark(7, 2), mark(9, 0)},
	}
}

func TestOnlyTheMarksAndTheSaltOpenASeal(t *testing.T) {
	for _, salt := range []int{0, 1, 77, 1000000} {
		x := markedSecret(4, salt)
		seal := impl.SealOf([]impl.Secret{x}, 4)
		arg, unchanged := guardedSecrets([]impl.Secret{x})
		checkValue(t, impl.IsSecretOf(arg[0], seal), true, "IsSecretOf(%v, its seal)", x)
		unchanged(t)
		checkValue(t, impl.IsSecretOf(markedSecret(9, salt), seal), true, "IsSecretOf the same marks and salt of another thing")
		for _, marks := range otherMarks() {
			checkValue(t, impl.IsSecretOf(secret(4, salt, marks...), seal), false, "IsSecretOf(%v, the seal of %v)", marks, x)
		}
		for _, other := range []int{seal + 1, seal - 1, -seal, 0, -1, seal + impl.Modulus, math.MaxInt} {
			checkValue(t, impl.IsSecretOf(x, other), false, "IsSecretOf(%v, %d)", x, other)
		}
	}
}

func TestSealsOfAnotherSalt(t *testing.T) {
	for _, salt := range []int{0, 1, 77, 78, 999999, 1000000} {
		seal := impl.SealOf([]impl.Secret{markedSecret(4, salt)}, 4)
		for _, other := range []int{0, 1, 77, 78, 999999, 1000000, -1, -77} {
			checkValue(t, impl.IsSecretOf(markedSecret(4, other), seal), other == salt, "IsSecretOf with the salt %d and a seal of the salt %d", other, salt)
		}
	}
}

func TestIsSecretOfInvalidMarks(t *testing.T) {
	for _, marks := range invalidMarks() {
		checkValue(t, impl.IsSecretOf(secret(4, 77, marks...), impl.SealMarks(marks, 77)), false, "IsSecretOf(%v, its seal)", marks)
	}
	// The seal of no marks is opened by no marks: AreMarks holds for them.
	checkValue(t, impl.IsSecretOf(secret(4, 77), wantHash(77)), true, "IsSecretOf no marks")
	checkValue(t, impl.IsSecretOf(markedSecret(-4, -77), impl.SealMarks(markedSecret(4, 5).Marks, -77)), true, "IsSecretOf a secret that is not valid, with valid marks")
}

func TestEqualSecrets(t *testing.T) {
	lists := [][]impl.Secret{nil, {}, {{}}, {markedSecret(2, 5)}, {markedSecret(4, 5)}, {markedSecret(2, 6)}, {markedSecret(2, 5), markedSecret(4, 5)}, {markedSecret(4, 5), markedSecret(2, 5)}, {markedSecret(2, 5), markedSecret(4, 6)}, {markedSecret(2, 5), {}}}
	for _, marks := range otherMarks() {
		lists = append(lists, []impl.Secret{secret(2, 5, marks...)}, []impl.Secret{markedSecret(2, 5), secret(4, 5, marks...)})
	}
	for _, a := range lists {
		for _, b := range lists {
			argA, sameA := guardedSecrets(a)
			argB, sameB := guardedSecrets(b)
			checkValue(t, impl.EqualSecrets(argA, argB), fmt.Sprint(a) == fmt.Sprint(b), "EqualSecrets(%v, %v)", a, b)
			sameA(t)
			sameB(t)
		}
	}
	checkValue(t, impl.EqualSecrets([]impl.Secret{{Thing: 1}}, []impl.Secret{{Thing: 1, Marks: []impl.Mark{}}}), true, "EqualSecrets of nil and empty marks")
}
