package tests

import (
	"slices"
	"testing"
)

// guarded returns a copy of l that has spare capacity, and a check that neither the copy nor its spare capacity has changed since.
func guarded[T comparable](l []T, spare T) ([]T, func(t *testing.T)) {
	const room = 8
	whole := slices.Concat(l, slices.Repeat([]T{spare}, room))
	before := slices.Clone(whole)
	return whole[:len(l)], func(t *testing.T) {
		t.Helper()
		if !slices.Equal(whole, before) {
			t.Errorf("the argument or its spare capacity changed from %v to %v", before, whole)
		}
	}
}

// overwrite changes all that a result can reach, so that a check sees whether an argument shares its memory.
func overwrite[T any](l []T, v T) {
	l = l[:cap(l)]
	for i := range l {
		l[i] = v
	}
}
