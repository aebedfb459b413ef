package segment

import (
	"iter"
	"maps"
	"slices"
	"testing"

	"mill/api"
	"mill/layout"
)

// two tiers stand on the raw numbers, one on the first of these.
func fresh() *Set {
	return New(layout.New(api.Config{Slots: 1, Lease: 1, Width: 5, Quota: 100, Tiers: []api.Tier{{From: -1, Width: 10}, {From: 0, Width: 20}, {From: -1, Width: 15}}}))
}

func add(s *Set, series, at int, value int32) { s.Put(s.Added(series, at, value)) }

func publish(s *Set, k Key) { s.Put([]Segment{s.Rolled(k)}) }

func reclaim(s *Set, k Key) { s.Put([]Segment{{Key: k, State: Reclaimed}}) }

func find(t *testing.T, s *Set, k Key, state State, cell api.Cell) {
	t.Helper()
	if gotState, gotCell := s.Find(k); gotState != state || gotCell != cell {
		t.Fatalf("Find(%+v) = %d, %+v, want %d, %+v", k, gotState, gotCell, state, cell)
	}
}

func counts(t *testing.T, s *Set, used, held, waiting, published, reclaimed int) {
	t.Helper()
	got := [5]int{s.Used(), s.Count(Held), s.Count(Waiting), s.Count(Published), s.Count(Reclaimed)}
	if want := [5]int{used, held, waiting, published, reclaimed}; got != want {
		t.Fatalf("used, held, waiting, published, reclaimed = %v, want %v", got, want)
	}
}

func TestAdd(t *testing.T) {
	s := fresh()
	counts(t, s, 0, 0, 0, 0, 0)
	find(t, s, Key{-1, 1, 0}, Missing, api.Cell{})
	if n := s.Cost(1, 3); n != 7 {
		t.Fatalf("Cost = %d, want 7", n)
	}
	counts(t, s, 0, 0, 0, 0, 0)
	add(s, 1, 3, 5)
	counts(t, s, 7, 1, 3, 0, 0)
	find(t, s, Key{-1, 1, 0}, Held, api.Cell{Count: 1, Sum: 5, Min: 5, Max: 5})
	find(t, s, Key{-1, 0, 0}, Missing, api.Cell{})
	find(t, s, Key{0, 1, 0}, Waiting, api.Cell{})
	find(t, s, Key{2, 1, 1}, Missing, api.Cell{})
	for at, want := range map[int]int{4: 1, 9: 1, 10: 3, 14: 3, 15: 5, 20: 7} {
		if n := s.Cost(1, at); n != want {
			t.Errorf("Cost(1, %d) = %d, want %d", at, n, want)
		}
	}
	add(s, 1, 4, -8)
	find(t, s, Key{-1, 1, 0}, Held, api.Cell{Count: 2, Sum: -3, Min: -8, Max: 5})
	add(s, 1, 4, 2)
	find(t, s, Key{-1, 1, 0}, Held, api.Cell{Count: 3, Sum: -1, Min: -8, Max: 5})
	counts(t, s, 9, 1, 3, 0, 0)
}

// P6, P9: cells are made of what they stand on, and outlive it.
func TestPublishAndReclaim(t *testing.T) {
	s := fresh()
	add(s, 0, 0, 2147483647)
	add(s, 0, 4, 2147483647)
	add(s, 0, 9, -4)
	add(s, 0, 10, -7)
	add(s, 0, 20, 100)
	add(s, 1, 0, -100)
	counts(t, s, 6+2*(4+3+3), 5, 10, 0, 0)
	first := api.Cell{Count: 3, Sum: 4294967290, Min: -4, Max: 2147483647}
	publish(s, Key{0, 0, 0})
	publish(s, Key{0, 0, 1})
	find(t, s, Key{0, 0, 0}, Published, first)
	find(t, s, Key{0, 0, 1}, Published, api.Cell{Count: 1, Sum: -7, Min: -7, Max: -7})
	publish(s, Key{2, 0, 0})
	whole := api.Cell{Count: 4, Sum: 4294967283, Min: -7, Max: 2147483647}
	find(t, s, Key{2, 0, 0}, Published, whole)
	counts(t, s, 26, 5, 7, 3, 0)
	reclaim(s, Key{-1, 0, 0})
	find(t, s, Key{-1, 0, 0}, Reclaimed, api.Cell{})
	counts(t, s, 24, 4, 7, 3, 1)
	find(t, s, Key{0, 0, 0}, Published, first)
	publish(s, Key{1, 0, 0})
	find(t, s, Key{1, 0, 0}, Published, whole)
	reclaim(s, Key{0, 0, 0})
	find(t, s, Key{0, 0, 0}, Reclaimed, api.Cell{})
	find(t, s, Key{1, 0, 0}, Published, whole)
	counts(t, s, 22, 4, 6, 3, 2)
}

// A segment that was reclaimed stays there: it costs nothing to be there.
func TestReclaimedIsNotMissing(t *testing.T) {
	s := fresh()
	add(s, 0, 0, 1)
	publish(s, Key{2, 0, 0})
	reclaim(s, Key{2, 0, 0})
	if n := s.Cost(0, 0); n != 1 {
		t.Errorf("Cost = %d, want 1", n)
	}
}

// all wants these segments to be there, in this order.
func all(t *testing.T, s *Set, want ...Segment) {
	t.Helper()
	if got := s.All(); !slices.Equal(got, want) {
		t.Fatalf("All = %+v, want %+v", got, want)
	}
}

// What changes is told ahead of the change, and only that: those that wait already are not told again.
func TestChanges(t *testing.T) {
	s := fresh()
	one := api.Cell{Count: 1, Sum: 5, Min: 5, Max: 5}
	two := api.Cell{Count: 2, Sum: 2, Min: -3, Max: 5}
	first := []Segment{{Key{-1, 1, 1}, Held, one}, {Key{0, 1, 0}, Waiting, api.Cell{}}, {Key{1, 1, 0}, Waiting, api.Cell{}}, {Key{2, 1, 0}, Waiting, api.Cell{}}}
	if got := s.Added(1, 5, 5); !slices.Equal(got, first) {
		t.Fatalf("Added = %+v, want %+v", got, first)
	}
	all(t, s)
	s.Put(first)
	all(t, s, first...)
	if got, want := s.Added(1, 9, -3), []Segment{{Key{-1, 1, 1}, Held, two}}; !slices.Equal(got, want) {
		t.Fatalf("Added = %+v, want %+v", got, want)
	}
	if got, want := s.Added(1, 15, 5), []Segment{{Key{-1, 1, 3}, Held, one}, {Key{0, 1, 1}, Waiting, api.Cell{}}, {Key{2, 1, 1}, Waiting, api.Cell{}}}; !slices.Equal(got, want) {
		t.Fatalf("Added = %+v, want %+v", got, want)
	}
	if got, want := s.Rolled(Key{2, 1, 0}), (Segment{Key{2, 1, 0}, Published, one}); got != want {
		t.Fatalf("Rolled = %+v, want %+v", got, want)
	}
	all(t, s, first...)
}

// P12: a set into which all of another is put is as that one.
func TestAll(t *testing.T) {
	s := fresh()
	add(s, 3, 0, 1)
	add(s, 0, 7, -2)
	add(s, 0, 2, -9)
	publish(s, Key{2, 0, 0})
	publish(s, Key{0, 3, 0})
	reclaim(s, Key{-1, 3, 0})
	want := []Segment{
		{Key{-1, 0, 0}, Held, api.Cell{Count: 1, Sum: -9, Min: -9, Max: -9}}, {Key{-1, 0, 1}, Held, api.Cell{Count: 1, Sum: -2, Min: -2, Max: -2}}, {Key{-1, 3, 0}, Reclaimed, api.Cell{}},
		{Key{0, 0, 0}, Waiting, api.Cell{}}, {Key{0, 3, 0}, Published, api.Cell{Count: 1, Sum: 1, Min: 1, Max: 1}},
		{Key{1, 0, 0}, Waiting, api.Cell{}}, {Key{1, 3, 0}, Waiting, api.Cell{}},
		{Key{2, 0, 0}, Published, api.Cell{Count: 2, Sum: -11, Min: -9, Max: -2}}, {Key{2, 3, 0}, Waiting, api.Cell{}},
	}
	all(t, s, want...)
	again := fresh()
	again.Put(s.All())
	all(t, again, want...)
	counts(t, again, s.Used(), 2, 4, 2, 1)
	again.Put(s.All())
	all(t, again, want...)
}

func TestHasCell(t *testing.T) {
	for state, want := range []bool{Missing: false, Held: true, Waiting: false, Published: true, Reclaimed: false} {
		if State(state).HasCell() != want {
			t.Errorf("HasCell of %d is not %v", state, want)
		}
	}
}

func keys(t *testing.T, what string, got iter.Seq[Key], want ...Key) {
	t.Helper()
	times := map[Key]int{}
	for k := range got {
		times[k]++
	}
	wanted := map[Key]int{}
	for _, k := range want {
		wanted[k]++
	}
	if !maps.Equal(times, wanted) {
		t.Fatalf("%s = %v, want %v", what, times, want)
	}
}

// kept is fresh, with a Lag, and a Keep for each tier.
func kept() *Set {
	return New(layout.New(api.Config{Slots: 1, Lease: 1, Lag: 2, Width: 5, Keep: 1, Quota: 100, Tiers: []api.Tier{{From: -1, Width: 10, Keep: 40}, {From: 0, Width: 20, Keep: 3}, {From: -1, Width: 15}}}))
}

// A segment can be rolled once it is closed and nothing that it stands on waits; once, and of its own series alone.
func TestRollable(t *testing.T) {
	s := kept()
	keys(t, "Rollable", s.Rollable(1000))
	add(s, 0, 0, 1)
	add(s, 0, 10, 1)
	add(s, 1, 9, 1)
	keys(t, "Rollable", s.Rollable(11))
	keys(t, "Rollable", s.Rollable(12), Key{0, 0, 0}, Key{0, 1, 0})
	keys(t, "Rollable", s.Rollable(17), Key{0, 0, 0}, Key{0, 1, 0}, Key{2, 0, 0}, Key{2, 1, 0})
	keys(t, "Rollable", s.Rollable(22), Key{0, 0, 0}, Key{0, 0, 1}, Key{0, 1, 0}, Key{2, 0, 0}, Key{2, 1, 0})
	publish(s, Key{0, 0, 0})
	keys(t, "Rollable", s.Rollable(22), Key{0, 0, 1}, Key{0, 1, 0}, Key{2, 0, 0}, Key{2, 1, 0})
	publish(s, Key{0, 1, 0})
	keys(t, "Rollable", s.Rollable(21), Key{2, 0, 0}, Key{2, 1, 0})
	keys(t, "Rollable", s.Rollable(22), Key{0, 0, 1}, Key{1, 1, 0}, Key{2, 0, 0}, Key{2, 1, 0})
	publish(s, Key{0, 0, 1})
	keys(t, "Rollable", s.Rollable(22), Key{1, 0, 0}, Key{1, 1, 0}, Key{2, 0, 0}, Key{2, 1, 0})
}

// A segment can be given up once it was kept long enough and all that hang on it are made, whether these are there still or not.
func TestReclaimable(t *testing.T) {
	s := kept()
	add(s, 0, 0, 1)
	add(s, 0, 6, 1)
	keys(t, "Reclaimable", s.Reclaimable(1000))
	publish(s, Key{0, 0, 0})
	keys(t, "Reclaimable", s.Reclaimable(1000))
	publish(s, Key{2, 0, 0})
	keys(t, "Reclaimable", s.Reclaimable(5))
	keys(t, "Reclaimable", s.Reclaimable(6), Key{-1, 0, 0})
	keys(t, "Reclaimable", s.Reclaimable(11), Key{-1, 0, 0}, Key{-1, 0, 1})
	keys(t, "Reclaimable", s.Reclaimable(1000), Key{-1, 0, 0}, Key{-1, 0, 1}, Key{2, 0, 0})
	publish(s, Key{1, 0, 0})
	keys(t, "Reclaimable", s.Reclaimable(49), Key{-1, 0, 0}, Key{-1, 0, 1}, Key{2, 0, 0}, Key{1, 0, 0})
	reclaim(s, Key{2, 0, 0})
	reclaim(s, Key{1, 0, 0})
	keys(t, "Reclaimable", s.Reclaimable(49), Key{-1, 0, 0}, Key{-1, 0, 1})
	keys(t, "Reclaimable", s.Reclaimable(50), Key{-1, 0, 0}, Key{-1, 0, 1}, Key{0, 0, 0})
	reclaim(s, Key{-1, 0, 0})
	keys(t, "Reclaimable", s.Reclaimable(50), Key{-1, 0, 1}, Key{0, 0, 0})
}
