package layout

import (
	"math"
	"testing"

	"mill/api"
)

func small() api.Config {
	return api.Config{Slots: 1, Lease: 5, Lag: 2, Width: 5, Keep: 10, Quota: 100, Tiers: []api.Tier{{From: -1, Width: 10, Keep: 100}, {From: 0, Width: 20, Keep: 100}}}
}

// with is a right configuration with one number set.
func with(set func(*api.Config)) api.Config {
	c := small()
	set(&c)
	return c
}

// P3: each number is tried at its bounds, just beside them, and far off.
func TestBounds(t *testing.T) {
	for _, b := range []struct {
		name        string
		least, most int
		set         func(c *api.Config, n int)
	}{
		{"Slots", 1, 4, func(c *api.Config, n int) { c.Slots = n }},
		{"Lease", 1, 100, func(c *api.Config, n int) { c.Lease = n }},
		{"Lag", 0, 100, func(c *api.Config, n int) { c.Lag = n }},
		{"Keep", 0, 1000, func(c *api.Config, n int) { c.Keep = n }},
		{"Quota", 1, 400, func(c *api.Config, n int) { c.Quota = n }},
		{"Tiers[0].Keep", 0, 1000, func(c *api.Config, n int) { c.Tiers[0].Keep = n }},
		{"Tiers[1].Keep", 0, 1000, func(c *api.Config, n int) { c.Tiers[1].Keep = n }},
		{"Width", 1, 50, func(c *api.Config, n int) {
			c.Width = n
			c.Tiers = []api.Tier{{From: -1, Width: n}}
		}},
		{"Tiers[0].Width", 1, 1000, func(c *api.Config, n int) {
			c.Width = 1
			c.Tiers = []api.Tier{{From: -1, Width: n}}
		}},
		{"the number of tiers", 1, 4, func(c *api.Config, n int) {
			if n >= 0 && n < 10 {
				c.Tiers = make([]api.Tier, n)
			} else {
				c.Tiers = nil
			}
			for i := range c.Tiers {
				c.Tiers[i] = api.Tier{From: i - 1, Width: 5}
			}
		}},
	} {
		for _, n := range []int{math.MinInt, -b.most, b.least - 1, b.least, b.most, b.most + 1, math.MaxInt} {
			c := with(func(c *api.Config) { b.set(c, n) })
			want := b.least <= n && n <= b.most
			if got := Right(c); got != want {
				t.Errorf("P3: Right with %s %d = %v, want %v", b.name, n, got, want)
			}
		}
	}
}

// P3: a width is that of its From, once or more times.
func TestWidths(t *testing.T) {
	for raw := 1; raw <= 50; raw++ {
		for lower := -1; lower <= 60; lower++ {
			for _, upper := range []int{0, 1, lower - 1, lower, lower + 1, 2 * lower, 3 * lower, 120, -lower} {
				c := with(func(c *api.Config) {
					c.Width = raw
					c.Tiers = []api.Tier{{From: 1, Width: upper}, {From: -1, Width: lower}}
				})
				want := times(lower, raw) && times(upper, lower)
				if got := Right(c); got != want {
					t.Errorf("P3: Right with widths %d, %d, %d = %v, want %v", raw, lower, upper, got, want)
				}
			}
		}
	}
}

// times tells whether a is b once or more times, by adding.
func times(a, b int) bool {
	for n := b; b > 0 && n <= a; n += b {
		if n == a {
			return true
		}
	}
	return false
}

// P3: all ways in which four tiers may go from one to another.
func TestFroms(t *testing.T) {
	right := 0
	for n := range 7 * 7 * 7 * 7 {
		from := [4]int{n%7 - 2, n/7%7 - 2, n/49%7 - 2, n/343 - 2}
		c := with(func(c *api.Config) {
			c.Tiers = nil
			for _, f := range from {
				c.Tiers = append(c.Tiers, api.Tier{From: f, Width: 5})
			}
		})
		want := allCome(from)
		if want {
			right++
		}
		if got := Right(c); got != want {
			t.Errorf("P3: Right with From %v = %v, want %v", from, got, want)
		}
	}
	// The forests of four numbered trees' nodes: (4 + 1) to the power of (4 - 1).
	if right != 125 {
		t.Errorf("P3: %d ways are right, want 125", right)
	}
	for _, f := range []int{math.MinInt, math.MaxInt, 2, -2} {
		if Right(with(func(c *api.Config) { c.Tiers[1].From = f })) {
			t.Errorf("P3: Right with From %d", f)
		}
	}
}

// allCome tells whether all tiers come to -1, by marking those that do until no more are found.
func allCome(from [4]int) bool {
	var come [4]bool
	for range from {
		for i, f := range from {
			if f == -1 || f >= 0 && f < 4 && come[f] {
				come[i] = true
			}
		}
	}
	return come == [4]bool{true, true, true, true}
}

// P2: what the caller does with the list later is not seen.
func TestNewKeepsNoList(t *testing.T) {
	c := small()
	l := New(c)
	c.Tiers[0] = api.Tier{From: 1, Width: 7}
	if n := l.End(0, 0); n != 10 {
		t.Errorf("P2: End(0, 0) = %d, want 10", n)
	}
}

func TestWindows(t *testing.T) {
	l := New(small())
	for _, w := range []struct{ tier, at, window, end int }{
		{-1, 0, 0, 5}, {-1, 4, 0, 5}, {-1, 5, 1, 10}, {0, 9, 0, 10}, {0, 10, 1, 20}, {1, 19, 0, 20}, {1, 20, 1, 40}, {-1, 100000, 20000, 100005},
	} {
		if n := l.Window(w.tier, w.at); n != w.window {
			t.Errorf("Window(%d, %d) = %d, want %d", w.tier, w.at, n, w.window)
		}
		if n := l.End(w.tier, w.window); n != w.end {
			t.Errorf("End(%d, %d) = %d, want %d", w.tier, w.window, n, w.end)
		}
	}
	for _, b := range []struct{ tier, window, from, first, end int }{{0, 0, -1, 0, 2}, {0, 3, -1, 6, 8}, {1, 2, 0, 4, 6}} {
		if from, first, end := l.Below(b.tier, b.window); from != b.from || first != b.first || end != b.end {
			t.Errorf("Below(%d, %d) = %d, %d, %d, want %+v", b.tier, b.window, from, first, end, b)
		}
	}
	for tier := -3; tier < 5; tier++ {
		if l.Has(tier) != (tier == -1 || tier == 0 || tier == 1) {
			t.Errorf("Has(%d) = %v", tier, l.Has(tier))
		}
	}
}

// Closed is at most NOW less Lag; what is kept is so up to its end and its tier's Keep.
func TestTimes(t *testing.T) {
	l := New(small())
	for _, w := range []struct{ tier, window, closed, kept int }{{-1, 0, 7, 15}, {-1, 3, 22, 30}, {0, 0, 12, 110}, {1, 1, 42, 140}} {
		if l.Closed(w.tier, w.window, w.closed-1) || !l.Closed(w.tier, w.window, w.closed) || !l.Closed(w.tier, w.window, w.closed+1) {
			t.Errorf("window %d of tier %d is not closed from %d on", w.window, w.tier, w.closed)
		}
		if n := l.KeptUntil(w.tier, w.window); n != w.kept {
			t.Errorf("KeptUntil(%d, %d) = %d, want %d", w.tier, w.window, n, w.kept)
		}
	}
	if n := l.Lease(); n != 5 {
		t.Errorf("Lease = %d, want 5", n)
	}
}

func TestSlots(t *testing.T) {
	for slots := 1; slots <= 4; slots++ {
		l := New(with(func(c *api.Config) { c.Slots = slots }))
		for _, slot := range []int{math.MinInt, -1, 0, 1, 2, 3, 4, math.MaxInt} {
			if want := slot >= 0 && slot < slots; l.HasSlot(slot) != want {
				t.Errorf("of %d slots HasSlot(%d) = %v", slots, slot, !want)
			}
		}
	}
}

// Above and Below tell the same, from both ends.
func TestAbove(t *testing.T) {
	l := New(with(func(c *api.Config) {
		c.Tiers = []api.Tier{{From: 2, Width: 40}, {From: -1, Width: 5}, {From: -1, Width: 20}, {From: 2, Width: 60}}
	}))
	for tier := -1; tier < 4; tier++ {
		for window := range 30 {
			got := map[[2]int]int{}
			for above, w := range l.Above(tier, window) {
				got[[2]int{above, w}]++
			}
			for above := range 4 {
				for w := range 30 {
					from, first, end := l.Below(above, w)
					want := 0
					if from == tier && first <= window && window < end {
						want = 1
					}
					if n := got[[2]int{above, w}]; n != want {
						t.Errorf("Above(%d, %d) tells %d, %d %d times, want %d", tier, window, above, w, n, want)
					}
				}
			}
		}
	}
	for range l.Above(-1, 0) {
		break
	}
}
