// Package segment: the segments that are there, and what becomes of them.
package segment

import (
	"cmp"
	"iter"
	"maps"
	"slices"

	"mill/api"
	"mill/layout"
	"mill/lists"
)

// Key is by what a segment is found.
type Key struct {
	Tier, Series, Window int
}

// State is what has become of a segment.
type State int

const (
	Missing   State = iota // it is not there
	Held                   // its raw numbers are there
	Waiting                // its cell is not made yet
	Published              // its cell is made
	Reclaimed              // it was given up
)

// cellUse is what a segment of a tier uses, from when on it is there.
const cellUse = 2

// segment has a cell of its own only while it is held or published.
type segment struct {
	state State
	cell  api.Cell
}

// Set has the segments that are there. Those that are reclaimed stand apart: the others are few, for they use room, so to go through them does not take the longer the older a mill is.
type Set struct {
	layout layout.Layout
	live   map[Key]segment
	gone   map[Key]struct{}
}

// New makes a set without segments.
func New(l layout.Layout) *Set {
	return &Set{layout: l, live: map[Key]segment{}, gone: map[Key]struct{}{}}
}

// Find tells a segment's state, and its cell if it is held or published.
func (s *Set) Find(k Key) (State, api.Cell) {
	if _, ok := s.gone[k]; ok {
		return Reclaimed, api.Cell{}
	}
	found := s.live[k]
	return found.state, found.cell
}

// Used tells how much room is used.
func (s *Set) Used() int { return lists.Sum(maps.Values(s.live), use) }

func use(g segment) int {
	if g.state == Held {
		return g.cell.Count
	}
	return cellUse
}

// Count tells how many segments are in a state.
func (s *Set) Count(state State) int {
	if state == Reclaimed {
		return len(s.gone)
	}
	return lists.Count(maps.Values(s.live), func(g segment) bool { return g.state == state })
}

// Cost tells how much more would be used, were a number added.
func (s *Set) Cost(series, at int) int {
	return 1 + cellUse*lists.Count(s.cellsOf(series, at), s.missing)
}

func (s *Set) missing(k Key) bool {
	state, _ := s.Find(k)
	return state == Missing
}

func (s *Set) waits(k Key) bool { return s.live[k].state == Waiting }

// cellsOf goes through the segments of all tiers that a number is in.
func (s *Set) cellsOf(series, at int) iter.Seq[Key] {
	return func(yield func(Key) bool) {
		for tier := range s.layout.Tiers() {
			if !yield(s.key(tier, series, at)) {
				return
			}
		}
	}
}

func (s *Set) key(tier, series, at int) Key {
	return Key{Tier: tier, Series: series, Window: s.layout.Window(tier, at)}
}

// Add takes a number whose windows are not closed: none of its segments is published or reclaimed.
func (s *Set) Add(series, at int, value int32) {
	raw := s.key(layout.Raw, series, at)
	cells := []api.Cell{{Count: 1, Sum: int64(value), Min: value, Max: value}}
	if old, ok := s.live[raw]; ok {
		cells = append(cells, old.cell)
	}
	s.live[raw] = segment{state: Held, cell: join(cells)}
	for k := range s.cellsOf(series, at) {
		if s.missing(k) {
			s.live[k] = segment{state: Waiting}
		}
	}
}

// Publish makes the cell of a segment that waits, of all that it stands on.
func (s *Set) Publish(k Key) {
	s.live[k] = segment{state: Published, cell: join(s.standsOn(k))}
}

func (s *Set) standsOn(k Key) []api.Cell {
	var cells []api.Cell
	from, first, end := s.layout.Below(k.Tier, k.Window)
	for window := first; window < end; window++ {
		below, ok := s.live[Key{Tier: from, Series: k.Series, Window: window}]
		if ok {
			cells = append(cells, below.cell)
		}
	}
	return cells
}

// Reclaim gives up a segment that is held or published.
func (s *Set) Reclaim(k Key) {
	delete(s.live, k)
	s.gone[k] = struct{}{}
}

// Rollable goes through the segments whose cell can be made: they wait and are closed, and none that they stand on waits.
func (s *Set) Rollable(now int) iter.Seq[Key] {
	blocked := s.blocked()
	return lists.Where(maps.Keys(s.live), func(k Key) bool {
		_, ok := blocked[k]
		return !ok && s.waits(k) && s.layout.Closed(k.Tier, k.Window, now)
	})
}

// blocked has the segments that stand on one that waits. They are found from below: few hang on a segment, while a thousand windows may be in its own.
func (s *Set) blocked() map[Key]struct{} {
	out := map[Key]struct{}{}
	for k := range lists.Where(maps.Keys(s.live), s.waits) {
		for above := range s.hangOn(k) {
			out[above] = struct{}{}
		}
	}
	return out
}

// Reclaimable goes through the segments that can be given up: they are held or published, were kept long enough, and none that hangs on them waits.
func (s *Set) Reclaimable(now int) iter.Seq[Key] {
	return lists.Where(maps.Keys(s.live), func(k Key) bool {
		return !s.waits(k) && s.layout.KeptUntil(k.Tier, k.Window) <= now && lists.Count(s.hangOn(k), s.waits) == 0
	})
}

// hangOn goes through the segments that hang on one that is there: they are there too, for its numbers are theirs.
func (s *Set) hangOn(k Key) iter.Seq[Key] {
	return func(yield func(Key) bool) {
		for tier, window := range s.layout.Above(k.Tier, k.Window) {
			if !yield(Key{Tier: tier, Series: k.Series, Window: window}) {
				return
			}
		}
	}
}

// join makes one cell of at least one.
func join(cells []api.Cell) api.Cell {
	least, _ := lists.First(slices.Values(cells), func(a, b api.Cell) int { return cmp.Compare(a.Min, b.Min) })
	greatest, _ := lists.First(slices.Values(cells), func(a, b api.Cell) int { return cmp.Compare(b.Max, a.Max) })
	return api.Cell{
		Count: lists.Sum(slices.Values(cells), func(c api.Cell) int { return c.Count }),
		Sum:   lists.Sum(slices.Values(cells), func(c api.Cell) int64 { return c.Sum }),
		Min:   least.Min,
		Max:   greatest.Max,
	}
}
