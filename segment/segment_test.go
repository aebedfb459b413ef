package segment

import (
	"iter"
	"maps"
	"testing"

	"mill/api"
	"mill/layout"
)

// two tiers stand on the raw numbers, one on the first of these.
func fresh() *Set {
	return New(layout.New(api.Config{Slots: 1, Lease: 1, Width: 5, Quota: 100, Tiers: []api.Tier{{From: -1, Width: 10}, {From: 0, Width: 20}, {From: -1, Width: 15}}}))
}

func find(t *testing.T, s *Set, k Key, state State, cell api.Cell) {
	t.Helper()
	if gotState, gotCell := s.Find(k); gotState != state || gotCell != cell {
		t.Fatalf("Find(%+v) = %d, %+v, want %d, %+v", k, gotState, gotCell, state, cell)
	}
}

func counts(t *testing.T, s *Set, used, held, waiting, published, reclaimed int) {
	t.Helper()
	got := [5]int{s.Used(), s.Count(Held), s.Count(Waiting), s.Count(Published), s.Count(Reclaimed)}
	if want := [5]int{used, held, waiting, published, reclaimed}; got != want {
		t.Fatalf("used, held, waiting, published, reclaimed = %v, want %v", got, want)
	}
}

func TestAdd(t *testing.T) {
	s := fresh()
	counts(t, s, 0, 0, 0, 0, 0)
	find(t, s, Key{-1, 1, 0}, Missing, api.Cell{})
	if n := s.Cost(1, 3); n != 7 {
		t.Fatalf("Cost = %d, want 7", n)
	}
	counts(t, s, 0, 0, 0, 0, 0)
	s.Add(1, 3, 5)
	counts(t, s, 7, 1, 3, 0, 0)
	find(t, s, Key{-1, 1, 0}, Held, api.Cell{Count: 1, Sum: 5, Min: 5, Max: 5})
	find(t, s, Key{-1, 0, 0}, Missing, api.Cell{})
	find(t, s, Key{0, 1, 0}, Waiting, api.Cell{})
	find(t, s, Key{2, 1, 1}, Missing, api.Cell{})
	for at, want := range map[int]int{4: 1, 9: 1, 10: 3, 14: 3, 15: 5, 20: 7} {
		if n := s.Cost(1, at); n != want {
			t.Errorf("Cost(1, %d) = %d, want %d", at, n, want)
		}
	}
	s.Add(1, 4, -8)
	find(t, s, Key{-1, 1, 0}, Held, api.Cell{Count: 2, Sum: -3, Min: -8, Max: 5})
	s.Add(1, 4, 2)
	find(t, s, Key{-1, 1, 0}, Held, api.Cell{Count: 3, Sum: -1, Min: -8, Max: 5})
	counts(t, s, 9, 1, 3, 0, 0)
}

// P6, P9: cells are made of what they stand on, and outlive it.
func TestPublishAndReclaim(t *testing.T) {
	s := fresh()
	s.Add(0, 0, 2147483647)
	s.Add(0, 4, 2147483647)
	s.Add(0, 9, -4)
	s.Add(0, 10, -7)
	s.Add(0, 20, 100)
	s.Add(1, 0, -100)
	counts(t, s, 6+2*(4+3+3), 5, 10, 0, 0)
	first := api.Cell{Count: 3, Sum: 4294967290, Min: -4, Max: 2147483647}
	s.Publish(Key{0, 0, 0})
	s.Publish(Key{0, 0, 1})
	find(t, s, Key{0, 0, 0}, Published, first)
	find(t, s, Key{0, 0, 1}, Published, api.Cell{Count: 1, Sum: -7, Min: -7, Max: -7})
	s.Publish(Key{2, 0, 0})
	whole := api.Cell{Count: 4, Sum: 4294967283, Min: -7, Max: 2147483647}
	find(t, s, Key{2, 0, 0}, Published, whole)
	counts(t, s, 26, 5, 7, 3, 0)
	s.Reclaim(Key{-1, 0, 0})
	find(t, s, Key{-1, 0, 0}, Reclaimed, api.Cell{})
	counts(t, s, 24, 4, 7, 3, 1)
	find(t, s, Key{0, 0, 0}, Published, first)
	s.Publish(Key{1, 0, 0})
	find(t, s, Key{1, 0, 0}, Published, whole)
	s.Reclaim(Key{0, 0, 0})
	find(t, s, Key{0, 0, 0}, Reclaimed, api.Cell{})
	find(t, s, Key{1, 0, 0}, Published, whole)
	counts(t, s, 22, 4, 6, 3, 2)
}

// A segment that was reclaimed stays there: it costs nothing to be there.
func TestReclaimedIsNotMissing(t *testing.T) {
	s := fresh()
	s.Add(0, 0, 1)
	s.Publish(Key{2, 0, 0})
	s.Reclaim(Key{2, 0, 0})
	if n := s.Cost(0, 0); n != 1 {
		t.Errorf("Cost = %d, want 1", n)
	}
}

func keys(t *testing.T, what string, got iter.Seq[Key], want ...Key) {
	t.Helper()
	times := map[Key]int{}
	for k := range got {
		times[k]++
	}
	wanted := map[Key]int{}
	for _, k := range want {
		wanted[k]++
	}
	if !maps.Equal(times, wanted) {
		t.Fatalf("%s = %v, want %v", what, times, want)
	}
}

// kept is fresh, with a Lag, and a Keep for each tier.
func kept() *Set {
	return New(layout.New(api.Config{Slots: 1, Lease: 1, Lag: 2, Width: 5, Keep: 1, Quota: 100, Tiers: []api.Tier{{From: -1, Width: 10, Keep: 40}, {From: 0, Width: 20, Keep: 3}, {From: -1, Width: 15}}}))
}

// A segment can be rolled once it is closed and nothing that it stands on waits; once, and of its own series alone.
func TestRollable(t *testing.T) {
	s := kept()
	keys(t, "Rollable", s.Rollable(1000))
	s.Add(0, 0, 1)
	s.Add(0, 10, 1)
	s.Add(1, 9, 1)
	keys(t, "Rollable", s.Rollable(11))
	keys(t, "Rollable", s.Rollable(12), Key{0, 0, 0}, Key{0, 1, 0})
	keys(t, "Rollable", s.Rollable(17), Key{0, 0, 0}, Key{0, 1, 0}, Key{2, 0, 0}, Key{2, 1, 0})
	keys(t, "Rollable", s.Rollable(22), Key{0, 0, 0}, Key{0, 0, 1}, Key{0, 1, 0}, Key{2, 0, 0}, Key{2, 1, 0})
	s.Publish(Key{0, 0, 0})
	keys(t, "Rollable", s.Rollable(22), Key{0, 0, 1}, Key{0, 1, 0}, Key{2, 0, 0}, Key{2, 1, 0})
	s.Publish(Key{0, 1, 0})
	keys(t, "Rollable", s.Rollable(21), Key{2, 0, 0}, Key{2, 1, 0})
	keys(t, "Rollable", s.Rollable(22), Key{0, 0, 1}, Key{1, 1, 0}, Key{2, 0, 0}, Key{2, 1, 0})
	s.Publish(Key{0, 0, 1})
	keys(t, "Rollable", s.Rollable(22), Key{1, 0, 0}, Key{1, 1, 0}, Key{2, 0, 0}, Key{2, 1, 0})
}

// A segment can be given up once it was kept long enough and all that hang on it are made, whether these are there still or not.
func TestReclaimable(t *testing.T) {
	s := kept()
	s.Add(0, 0, 1)
	s.Add(0, 6, 1)
	keys(t, "Reclaimable", s.Reclaimable(1000))
	s.Publish(Key{0, 0, 0})
	keys(t, "Reclaimable", s.Reclaimable(1000))
	s.Publish(Key{2, 0, 0})
	keys(t, "Reclaimable", s.Reclaimable(5))
	keys(t, "Reclaimable", s.Reclaimable(6), Key{-1, 0, 0})
	keys(t, "Reclaimable", s.Reclaimable(11), Key{-1, 0, 0}, Key{-1, 0, 1})
	keys(t, "Reclaimable", s.Reclaimable(1000), Key{-1, 0, 0}, Key{-1, 0, 1}, Key{2, 0, 0})
	s.Publish(Key{1, 0, 0})
	keys(t, "Reclaimable", s.Reclaimable(49), Key{-1, 0, 0}, Key{-1, 0, 1}, Key{2, 0, 0}, Key{1, 0, 0})
	s.Reclaim(Key{2, 0, 0})
	s.Reclaim(Key{1, 0, 0})
	keys(t, "Reclaimable", s.Reclaimable(49), Key{-1, 0, 0}, Key{-1, 0, 1})
	keys(t, "Reclaimable", s.Reclaimable(50), Key{-1, 0, 0}, Key{-1, 0, 1}, Key{0, 0, 0})
	s.Reclaim(Key{-1, 0, 0})
	keys(t, "Reclaimable", s.Reclaimable(50), Key{-1, 0, 1}, Key{0, 0, 0})
}
