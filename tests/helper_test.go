package tests

import (
	"math"
	"slices"
	"testing"
)

// A field is a number in a struct, with its limits.
type field[T any] struct {
	low, high int
	set       func(x *T, n int)
}

// atLimits returns copies of x in which one field is at a limit, or between the limits.
func atLimits[T any](x T, fields []field[T]) []T {
	return changed(x, fields, func(f field[T]) []int {
		return []int{f.low, f.low + 1, (f.low + f.high) / 2, f.high - 1, f.high}
	})
}

// beyondLimits returns copies of x in which one field is beyond a limit.
func beyondLimits[T any](x T, fields []field[T]) []T {
	return changed(x, fields, func(f field[T]) []int {
		return []int{f.low - 1, f.low - 2, -f.high - 1, f.high + 1, f.high + 2, math.MinInt, math.MaxInt}
	})
}

func changed[T any](x T, fields []field[T], numbers func(f field[T]) []int) []T {
	var l []T
	for _, f := range fields {
		for _, n := range numbers(f) {
			y := x
			f.set(&y, n)
			l = append(l, y)
		}
	}
	return l
}

func checkValue[T comparable](t *testing.T, got T, want T, format string, args ...any) {
	t.Helper()
	if got != want {
		t.Errorf(format+" = %+v, want %+v", append(args, got, want)...)
	}
}

func checkList[T comparable](t *testing.T, got []T, want []T, format string, args ...any) {
	t.Helper()
	if !slices.Equal(got, want) {
		t.Errorf(format+" = %+v, want %+v", append(args, got, want)...)
	}
}

// guarded returns a copy of l that has spare capacity, and a check that neither the copy nor its spare capacity has changed since.
func guarded[T comparable](l []T, spare T) ([]T, func(t *testing.T)) {
	const room = 8
	whole := slices.Concat(l, slices.Repeat([]T{spare}, room))
	before := slices.Clone(whole)
	return whole[:len(l)], func(t *testing.T) {
		t.Helper()
		if !slices.Equal(whole, before) {
			t.Errorf("the argument or its spare capacity changed from %v to %v", before, whole)
		}
	}
}

// overwrite changes all that a result can reach, so that a check sees whether an argument shares its memory.
func overwrite[T any](l []T, v T) {
	l = l[:cap(l)]
	for i := range l {
		l[i] = v
	}
}
