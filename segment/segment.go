// Package segment: the segments that are there, and what becomes of them.
package segment

import (
	"cmp"
	"iter"
	"maps"
	"slices"

	"mill/api"
	"mill/layout"
	"mill/lists"
)

// Key is by what a segment is found.
type Key struct {
	Tier, Series, Window int
}

// State is what has become of a segment.
type State int

const (
	Missing   State = iota // it is not there
	Held                   // its raw numbers are there
	Waiting                // its cell is not made yet
	Published              // its cell is made
	Reclaimed              // it was given up
)

// cellUse is what a segment of a tier uses, from when on it is there.
const cellUse = 2

// HasCell tells whether a segment has a cell of its own.
func (s State) HasCell() bool { return s == Held || s == Published }

// Segment is how a segment is.
type Segment struct {
	Key   Key
	State State
	Cell  api.Cell // of noughts, unless its state has one
}

// Set has the segments that are there. Those that are reclaimed stand apart: the others are few, for they use room, so to go through them does not take the longer the older a mill is.
type Set struct {
	layout layout.Layout
	live   map[Key]Segment
	gone   map[Key]struct{}
}

// New makes a set without segments.
func New(l layout.Layout) *Set {
	return &Set{layout: l, live: map[Key]Segment{}, gone: map[Key]struct{}{}}
}

// Find tells a segment's state, and its cell if it is held or published.
func (s *Set) Find(k Key) (State, api.Cell) {
	if _, ok := s.gone[k]; ok {
		return Reclaimed, api.Cell{}
	}
	found := s.live[k]
	return found.State, found.Cell
}

// Used tells how much room is used.
func (s *Set) Used() int { return lists.Sum(maps.Values(s.live), use) }

func use(g Segment) int {
	if g.State == Held {
		return g.Cell.Count
	}
	return cellUse
}

// Count tells how many segments are in a state.
func (s *Set) Count(state State) int {
	if state == Reclaimed {
		return len(s.gone)
	}
	return lists.Count(maps.Values(s.live), func(g Segment) bool { return g.State == state })
}

// Cost tells how much more would be used, were a number added.
func (s *Set) Cost(series, at int) int {
	return 1 + cellUse*lists.Count(s.cellsOf(series, at), s.missing)
}

func (s *Set) missing(k Key) bool {
	state, _ := s.Find(k)
	return state == Missing
}

func (s *Set) waits(k Key) bool { return s.live[k].State == Waiting }

// cellsOf goes through the segments of all tiers that a number is in.
func (s *Set) cellsOf(series, at int) iter.Seq[Key] {
	return func(yield func(Key) bool) {
		for tier := range s.layout.Tiers() {
			if !yield(s.key(tier, series, at)) {
				return
			}
		}
	}
}

func (s *Set) key(tier, series, at int) Key {
	return Key{Tier: tier, Series: series, Window: s.layout.Window(tier, at)}
}

// Added tells what changes with a number whose windows are not closed: none of its segments is published or reclaimed.
func (s *Set) Added(series, at int, value int32) []Segment {
	raw := s.key(layout.Raw, series, at)
	cells := []api.Cell{{Count: 1, Sum: int64(value), Min: value, Max: value}}
	if old, ok := s.live[raw]; ok {
		cells = append(cells, old.Cell)
	}
	changed := []Segment{{Key: raw, State: Held, Cell: join(cells)}}
	for k := range lists.Where(s.cellsOf(series, at), s.missing) {
		changed = append(changed, Segment{Key: k, State: Waiting})
	}
	return changed
}

// Rolled tells what becomes of a segment that waits, when its cell is made of all that it stands on.
func (s *Set) Rolled(k Key) Segment {
	return Segment{Key: k, State: Published, Cell: join(s.standsOn(k))}
}

func (s *Set) standsOn(k Key) []api.Cell {
	var cells []api.Cell
	from, first, end := s.layout.Below(k.Tier, k.Window)
	for window := first; window < end; window++ {
		below, ok := s.live[Key{Tier: from, Series: k.Series, Window: window}]
		if ok {
			cells = append(cells, below.Cell)
		}
	}
	return cells
}

// Put lets segments be as they are told, whatever they were.
func (s *Set) Put(changed []Segment) {
	for _, g := range changed {
		if g.State == Reclaimed {
			delete(s.live, g.Key)
			s.gone[g.Key] = struct{}{}
		} else {
			s.live[g.Key] = g
		}
	}
}

// All tells all segments that are there, by tier, series, window.
func (s *Set) All() []Segment {
	all := slices.Collect(maps.Values(s.live))
	for k := range s.gone {
		all = append(all, Segment{Key: k, State: Reclaimed})
	}
	slices.SortFunc(all, func(a, b Segment) int { return Order(a.Key, b.Key) })
	return all
}

// Order goes by tier, then series, window.
func Order(a, b Key) int {
	return cmp.Or(cmp.Compare(a.Tier, b.Tier), cmp.Compare(a.Series, b.Series), cmp.Compare(a.Window, b.Window))
}

// Rollable goes through the segments whose cell can be made: they wait and are closed, and none that they stand on waits.
func (s *Set) Rollable(now int) iter.Seq[Key] {
	blocked := s.blocked()
	return lists.Where(maps.Keys(s.live), func(k Key) bool {
		_, ok := blocked[k]
		return !ok && s.waits(k) && s.layout.Closed(k.Tier, k.Window, now)
	})
}

// blocked has the segments that stand on one that waits. They are found from below: few hang on a segment, while a thousand windows may be in its own.
func (s *Set) blocked() map[Key]struct{} {
	out := map[Key]struct{}{}
	for k := range lists.Where(maps.Keys(s.live), s.waits) {
		for above := range s.hangOn(k) {
			out[above] = struct{}{}
		}
	}
	return out
}

// Reclaimable goes through the segments that can be given up: they are held or published, were kept long enough, and none that hangs on them waits.
func (s *Set) Reclaimable(now int) iter.Seq[Key] {
	return lists.Where(maps.Keys(s.live), func(k Key) bool {
		return !s.waits(k) && s.layout.KeptUntil(k.Tier, k.Window) <= now && lists.Count(s.hangOn(k), s.waits) == 0
	})
}

// hangOn goes through the segments that hang on one that is there: they are there too, for its numbers are theirs.
func (s *Set) hangOn(k Key) iter.Seq[Key] {
	return func(yield func(Key) bool) {
		for tier, window := range s.layout.Above(k.Tier, k.Window) {
			if !yield(Key{Tier: tier, Series: k.Series, Window: window}) {
				return
			}
		}
	}
}

// join makes one cell of at least one.
func join(cells []api.Cell) api.Cell {
	least, _ := lists.First(slices.Values(cells), func(a, b api.Cell) int { return cmp.Compare(a.Min, b.Min) })
	greatest, _ := lists.First(slices.Values(cells), func(a, b api.Cell) int { return cmp.Compare(b.Max, a.Max) })
	return api.Cell{
		Count: lists.Sum(slices.Values(cells), func(c api.Cell) int { return c.Count }),
		Sum:   lists.Sum(slices.Values(cells), func(c api.Cell) int64 { return c.Sum }),
		Min:   least.Min,
		Max:   greatest.Max,
	}
}
