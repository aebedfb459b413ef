package mill

import (
	"math"
	"testing"

	"mill/api"
	"mill/disk"
)

// P4: each error at its edges, and the one named first where several apply.
func TestIngestErrors(t *testing.T) {
	c := example()
	c.Quota = 5
	m := open(t, c, disk.New())
	tick(t, m, 10, api.OK)
	for _, series := range []int{-1, 4, math.MinInt, math.MaxInt} {
		for _, at := range []int{-1, 0, 7, 8, 10, 11} {
			ingest(t, m, series, at, 0, api.ErrArg)
		}
	}
	for _, at := range []int{-1, 11, math.MinInt, math.MaxInt} {
		ingest(t, m, 3, at, 0, api.ErrTime)
	}
	for _, at := range []int{0, 7} {
		ingest(t, m, 3, at, 0, api.ErrLate)
	}
	stats(t, m, api.Stats{Now: 10})
	ingest(t, m, 3, 8, 0, api.OK)
	ingest(t, m, 3, 8, 0, api.ErrFull)
	ingest(t, m, 0, 10, 0, api.ErrFull)
	ingest(t, m, 4, -1, 0, api.ErrArg)
	ingest(t, m, 0, -1, 0, api.ErrTime)
	ingest(t, m, 0, 11, 0, api.ErrTime)
	ingest(t, m, 0, 7, 0, api.ErrLate)
	stats(t, m, api.Stats{Now: 10, Used: 5, Tight: 1, Held: 1, Waiting: 2})
}

// P4: with a Lag of 0 only NOW is early enough; with a great one all times are, as long as NOW is not above it.
func TestLag(t *testing.T) {
	c := example()
	c.Lag = 0
	m := open(t, c, disk.New())
	ingest(t, m, 0, 0, 1, api.OK)
	tick(t, m, 5, api.OK)
	ingest(t, m, 0, 4, 1, api.ErrLate)
	ingest(t, m, 0, 5, 1, api.OK)
	query(t, m, -1, 0, 0, api.Cell{Count: 1, Sum: 1, Min: 1, Max: 1}, api.OK)
	c.Lag = 100
	m = open(t, c, disk.New())
	tick(t, m, 100, api.OK)
	ingest(t, m, 0, 0, 1, api.OK)
	tick(t, m, 1, api.OK)
	ingest(t, m, 0, 0, 1, api.ErrLate)
	ingest(t, m, 0, 1, 1, api.OK)
	query(t, m, -1, 0, 0, api.Cell{}, api.ErrOpen)
	tick(t, m, 4, api.OK)
	query(t, m, -1, 0, 0, api.Cell{Count: 2, Sum: 2, Min: 1, Max: 1}, api.OK)
}

// P4: the room that a number needs hangs on which of its segments are there; one that is refused makes none.
func TestFull(t *testing.T) {
	c := example()
	c.Quota = 13
	m := open(t, c, disk.New())
	ingest(t, m, 0, 0, 1, api.OK) // 5
	tick(t, m, 10, api.OK)
	ingest(t, m, 0, 9, 1, api.OK)  // a raw segment: 6
	ingest(t, m, 0, 10, 1, api.OK) // and one of tier 0: 9
	ingest(t, m, 1, 10, 1, api.ErrFull)
	stats(t, m, api.Stats{Now: 10, Used: 9, Held: 3, Waiting: 3})
	ingest(t, m, 0, 10, 1, api.OK) // 10: forty is above thirty-nine
	stats(t, m, api.Stats{Now: 10, Used: 10, Tight: 1, Held: 3, Waiting: 3})
	for range 3 {
		ingest(t, m, 0, 10, 1, api.OK)
	}
	ingest(t, m, 0, 10, 1, api.ErrFull)
	stats(t, m, api.Stats{Now: 10, Used: 13, Tight: 1, Held: 3, Waiting: 3})
	tick(t, m, 2, api.OK)
	query(t, m, -1, 0, 2, api.Cell{}, api.ErrOpen)
	tick(t, m, 5, api.OK)
	query(t, m, -1, 0, 2, api.Cell{Count: 5, Sum: 5, Min: 1, Max: 1}, api.OK)
	query(t, m, -1, 1, 2, api.Cell{}, api.ErrEmpty)
}

// P9: TIGHT is above three quarters, not at them.
func TestTight(t *testing.T) {
	c := example()
	c.Quota = 12
	m := open(t, c, disk.New())
	for range 5 {
		ingest(t, m, 0, 0, 1, api.OK)
	}
	stats(t, m, api.Stats{Used: 9, Held: 1, Waiting: 2})
	ingest(t, m, 0, 0, 1, api.OK)
	stats(t, m, api.Stats{Used: 10, Tight: 1, Held: 1, Waiting: 2})
}

func TestTick(t *testing.T) {
	m := open(t, example(), disk.New())
	for _, n := range []int{0, -1, 1001, math.MinInt, math.MaxInt, math.MaxInt - 1} {
		tick(t, m, n, api.ErrTime)
	}
	stats(t, m, api.Stats{})
	tick(t, m, 1, api.OK)
	for range 99 {
		tick(t, m, 1000, api.OK)
	}
	tick(t, m, 1000, api.ErrTime)
	stats(t, m, api.Stats{Now: 99001})
	tick(t, m, 999, api.OK)
	tick(t, m, 1, api.ErrTime)
	tick(t, m, math.MaxInt, api.ErrTime)
	stats(t, m, api.Stats{Now: 100000})
	ingest(t, m, 0, 100000, 1, api.OK)
	ingest(t, m, 0, 100001, 1, api.ErrTime)
}

// P6: wrong numbers come ahead of windows that are not closed, and these ahead of segments that are not there.
func TestQueryErrors(t *testing.T) {
	m := open(t, example(), disk.New())
	for _, tier := range []int{-2, 2, math.MinInt, math.MaxInt} {
		query(t, m, tier, 0, 0, api.Cell{}, api.ErrArg)
	}
	for _, series := range []int{-1, 4, math.MinInt, math.MaxInt} {
		query(t, m, 0, series, 0, api.Cell{}, api.ErrArg)
	}
	for _, window := range []int{-1, 100001, math.MinInt, math.MaxInt} {
		query(t, m, 0, 0, window, api.Cell{}, api.ErrArg)
	}
	for tier := -1; tier < 2; tier++ {
		query(t, m, tier, 3, 0, api.Cell{}, api.ErrOpen)
		query(t, m, tier, 3, 100000, api.Cell{}, api.ErrOpen)
	}
	tick(t, m, 11, api.OK)
	query(t, m, -1, 3, 0, api.Cell{}, api.ErrEmpty)
	query(t, m, 0, 3, 0, api.Cell{}, api.ErrOpen)
	tick(t, m, 1, api.OK)
	query(t, m, 0, 3, 0, api.Cell{}, api.ErrEmpty)
	query(t, m, -1, 3, 1, api.Cell{}, api.ErrEmpty)
	query(t, m, -1, 3, 2, api.Cell{}, api.ErrOpen)
}

// P6: the last window that can be asked for, with windows of width 1.
func TestLastWindow(t *testing.T) {
	c := api.Config{Slots: 1, Lease: 1, Width: 1, Quota: 9, Tiers: []api.Tier{{From: -1, Width: 1}}}
	m := open(t, c, disk.New())
	for range 100 {
		tick(t, m, 1000, api.OK)
	}
	ingest(t, m, 0, 100000, 1, api.OK)
	query(t, m, -1, 0, 100000, api.Cell{}, api.ErrOpen)
	query(t, m, -1, 0, 99999, api.Cell{}, api.ErrEmpty)
	query(t, m, 0, 0, 100001, api.Cell{}, api.ErrArg)
}

// P6: sums are wider than numbers.
func TestWideSums(t *testing.T) {
	m := open(t, example(), disk.New())
	for range 3 {
		ingest(t, m, 0, 0, math.MaxInt32, api.OK)
		ingest(t, m, 1, 0, math.MinInt32, api.OK)
	}
	tick(t, m, 7, api.OK)
	query(t, m, -1, 0, 0, api.Cell{Count: 3, Sum: 3 * math.MaxInt32, Min: math.MaxInt32, Max: math.MaxInt32}, api.OK)
	query(t, m, -1, 1, 0, api.Cell{Count: 3, Sum: 3 * math.MinInt32, Min: math.MinInt32, Max: math.MinInt32}, api.OK)
}

// P6, P9: a cell is told once it is published, until it is reclaimed; it outlives what it was made of.
func TestPublishedAndReclaimed(t *testing.T) {
	c := example()
	c.Tiers[0].Keep = 5
	m := open(t, c, disk.New())
	ingest(t, m, 0, 0, 7, api.OK)
	tick(t, m, 7, api.OK)
	ingest(t, m, 0, 5, -3, api.OK)
	tick(t, m, 12, api.OK)
	cell := api.Cell{Count: 2, Sum: 4, Min: -3, Max: 7}
	do(t, m, ready(api.Roll, 0, 0, 0, 19))
	query(t, m, 0, 0, 0, cell, api.OK)
	query(t, m, 1, 0, 0, api.Cell{}, api.ErrOpen)
	stats(t, m, api.Stats{Now: 19, Used: 6, Held: 2, Waiting: 1, Published: 1})
	do(t, m, ready(api.Reclaim, -1, 0, 0, 19))
	query(t, m, -1, 0, 0, api.Cell{}, api.ErrGone)
	query(t, m, -1, 0, 1, api.Cell{Count: 1, Sum: -3, Min: -3, Max: -3}, api.OK)
	query(t, m, 0, 0, 0, cell, api.OK)
	stats(t, m, api.Stats{Now: 19, Used: 5, Held: 1, Waiting: 1, Published: 1, Gone: 1})
	jobs(t, m)
	tick(t, m, 3, api.OK)
	query(t, m, 1, 0, 0, api.Cell{}, api.ErrWait)
	do(t, m, ready(api.Roll, 1, 0, 0, 22), ready(api.Reclaim, 0, 0, 0, 22), ready(api.Reclaim, -1, 0, 1, 22)) // DUE 20, 15, 20
	query(t, m, 1, 0, 0, cell, api.OK)
	query(t, m, 0, 0, 0, api.Cell{}, api.ErrGone)
	query(t, m, -1, 0, 1, api.Cell{}, api.ErrGone)
	stats(t, m, api.Stats{Now: 22, Used: 2, Published: 1, Gone: 3})
	ingest(t, m, 0, 20, 1, api.OK)
	stats(t, m, api.Stats{Now: 22, Used: 7, Held: 1, Waiting: 2, Published: 1, Gone: 3})
}
