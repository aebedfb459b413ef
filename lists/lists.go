// Package lists: what is asked of lists, whatever they are of.
package lists

import "iter"

// Number is what can be added up.
type Number interface {
	~int | ~int64
}

// Sum adds up what is told of each.
func Sum[T any, N Number](list iter.Seq[T], of func(T) N) N {
	var sum N
	for e := range list {
		sum += of(e)
	}
	return sum
}

// Where goes through those of which something holds.
func Where[T any](list iter.Seq[T], holds func(T) bool) iter.Seq[T] {
	return func(yield func(T) bool) {
		for e := range list {
			if holds(e) && !yield(e) {
				return
			}
		}
	}
}

// Count tells of how many something holds.
func Count[T any](list iter.Seq[T], holds func(T) bool) int {
	return Sum(Where(list, holds), func(T) int { return 1 })
}

// First tells the one that is ahead of all others, and whether there is any. Of those that an order does not tell apart it is any one: a caller whose list has no order of its own gives an order that tells all apart, or asks only for what they share.
func First[T any](list iter.Seq[T], order func(a, b T) int) (T, bool) {
	var first T
	found := false
	for e := range list {
		if !found || order(e, first) < 0 {
			first, found = e, true
		}
	}
	return first, found
}
