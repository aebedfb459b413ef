package lists

import (
	"cmp"
	"slices"
	"testing"
)

func TestSum(t *testing.T) {
	if n := Sum(slices.Values([]string{"a", "", "bcd"}), func(s string) int { return len(s) }); n != 4 {
		t.Errorf("Sum of lengths = %d, want 4", n)
	}
	wide := []int32{2147483647, 2147483647, -1}
	if n := Sum(slices.Values(wide), func(v int32) int64 { return int64(v) }); n != 4294967293 {
		t.Errorf("Sum of wide numbers = %d, want 4294967293", n)
	}
	if n := Sum(slices.Values([]int(nil)), func(v int) int { return v }); n != 0 {
		t.Errorf("Sum of nothing = %d, want 0", n)
	}
}

func TestCount(t *testing.T) {
	odd := func(n int) bool { return n%2 == 1 }
	if n := Count(slices.Values([]int{1, 2, 3, 4, 5}), odd); n != 3 {
		t.Errorf("Count = %d, want 3", n)
	}
	if n := Count(slices.Values([]int(nil)), odd); n != 0 {
		t.Errorf("Count of nothing = %d, want 0", n)
	}
}

func TestWhere(t *testing.T) {
	odd := func(n int) bool { return n%2 == 1 }
	if got := slices.Collect(Where(slices.Values([]int{2, 1, 4, 3, 5, 6}), odd)); !slices.Equal(got, []int{1, 3, 5}) {
		t.Errorf("Where = %v, want 1, 3, 5", got)
	}
	for n := range Where(slices.Values([]int{2, 3, 5}), odd) {
		if n != 3 {
			t.Errorf("Where goes on to %d behind a break", n)
		}
		break
	}
	if got := slices.Collect(Where(slices.Values([]int{2}), odd)); len(got) != 0 {
		t.Errorf("Where = %v, want nothing", got)
	}
}

func TestFirst(t *testing.T) {
	for _, list := range [][]int{{1, 2, 3}, {3, 2, 1}, {2, 1, 3}, {1}} {
		if n, ok := First(slices.Values(list), cmp.Compare[int]); n != 1 || !ok {
			t.Errorf("First of %v = %d, %v, want 1, true", list, n, ok)
		}
	}
	if n, ok := First(slices.Values([]int(nil)), cmp.Compare[int]); n != 0 || ok {
		t.Errorf("First of nothing = %d, %v, want 0, false", n, ok)
	}
}
