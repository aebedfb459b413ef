package mill

import (
	"math"
	"slices"
	"testing"

	"mill/api"
	"mill/disk"
)

// example is DOC.md's.
func example() api.Config {
	return api.Config{Slots: 1, Lease: 5, Lag: 2, Width: 5, Keep: 10, Quota: 100, Tiers: []api.Tier{{From: -1, Width: 10, Keep: 100}, {From: 0, Width: 20, Keep: 100}}}
}

func open(t *testing.T, c api.Config, d *disk.Disk) *Mill {
	t.Helper()
	m, e := Open(c, d)
	if m == nil || e != api.OK {
		t.Fatalf("P3: Open(%+v) = %v, %d", c, m, e)
	}
	return m
}

func ingest(t *testing.T, m *Mill, series, at int, value int32, want api.Errno) {
	t.Helper()
	if e := m.Ingest(series, at, value); e != want {
		t.Fatalf("P4: Ingest(%d, %d, %d) = %d, want %d", series, at, value, e, want)
	}
}

func tick(t *testing.T, m *Mill, n int, want api.Errno) {
	t.Helper()
	if e := m.Tick(n); e != want {
		t.Fatalf("P5: Tick(%d) = %d, want %d", n, e, want)
	}
}

func query(t *testing.T, m *Mill, tier, series, window int, want api.Cell, e api.Errno) {
	t.Helper()
	if c, f := m.Query(tier, series, window); c != want || f != e {
		t.Fatalf("P6: Query(%d, %d, %d) = %+v, %d, want %+v, %d", tier, series, window, c, f, want, e)
	}
}

// stats leaves the epoch out.
func stats(t *testing.T, m *Mill, want api.Stats) {
	t.Helper()
	got := m.Stats()
	want.Epoch = got.Epoch
	if got != want {
		t.Fatalf("P9: Stats = %+v, want %+v", got, want)
	}
}

func TestRight(t *testing.T) {
	if e := Right(example()); e != api.OK {
		t.Errorf("P3: Right(example) = %d", e)
	}
	for _, c := range wrong() {
		if e := Right(c); e != api.ErrConfig {
			t.Errorf("P3: Right(%+v) = %d, want ErrConfig", c, e)
		}
	}
}

func wrong() []api.Config {
	slots, width, round := example(), example(), example()
	slots.Slots = 5
	width.Tiers[1].Width = 15
	round.Tiers[0].From = 1
	return []api.Config{{}, slots, width, round}
}

// P1, P3: an Open that is refused leaves the disk as it was.
func TestOpenOfWrong(t *testing.T) {
	stopped := disk.New()
	stopped.Stop(0)
	for _, c := range wrong() {
		for _, d := range []*disk.Disk{disk.New(), stopped} {
			if m, e := Open(c, d); m != nil || e != api.ErrConfig {
				t.Errorf("P3: Open(%+v) = %v, %d, want nil, ErrConfig", c, m, e)
			}
			if names := d.Names(); len(names) != 0 {
				t.Errorf("P1: Open(%+v) left %v on the disk", c, names)
			}
		}
	}
}

func TestOpenOfNew(t *testing.T) {
	m := open(t, example(), disk.New())
	if s := m.Stats(); s.Epoch < 1 {
		t.Errorf("P3: epoch %d", s.Epoch)
	}
	stats(t, m, api.Stats{})
	stats(t, open(t, example(), disk.New().Crash(0)), api.Stats{})
}

// P3: also behind a crash, which may take with it all that is not safe.
func TestEpochsRise(t *testing.T) {
	d := disk.New()
	last := 0
	for i := range 300 {
		if i%3 == 2 {
			d = d.Crash(0)
		}
		m := open(t, example(), d)
		if s := m.Stats(); s.Epoch <= last {
			t.Fatalf("P3: epoch %d behind %d", s.Epoch, last)
		}
		last = m.Stats().Epoch
	}
}

// P3, P10: an Open that the disk refuses may be followed by one on what is left.
func TestOpenOfStopped(t *testing.T) {
	for steps := range 9 {
		d := disk.New()
		before := open(t, example(), d).Stats().Epoch
		d.Stop(steps)
		m, e := Open(example(), d)
		if (m == nil) != (e == api.ErrDown) || m != nil && e != api.OK || steps == 0 && m != nil {
			t.Fatalf("P10: Open with %d steps left = %v, %d", steps, m, e)
		}
		if steps == 8 && m == nil {
			t.Fatalf("P10: Open with %d steps left is refused", steps)
		}
		if m != nil {
			before = m.Stats().Epoch
		}
		for keep := range 3 {
			if after := open(t, example(), d.Crash(keep)).Stats().Epoch; after <= before {
				t.Fatalf("P3: epoch %d behind %d", after, before)
			}
		}
	}
}

// P10: an Open that is answered OK was refused no step: with one step more there is one left.
func TestOpenRefusedNothing(t *testing.T) {
	used, torn := disk.New(), disk.New()
	ingest(t, open(t, example(), used), 0, 0, 7, api.OK)
	m := open(t, example(), torn)
	torn.Stop(1)
	tick(t, m, 1, api.ErrDown)
	half := used.Crash(0)
	half.Stop(3)
	Open(example(), half)
	for i, d := range []*disk.Disk{disk.New(), used, torn.Crash(2), torn.Crash(100), half.Crash(0), half.Crash(2), half.Crash(100)} {
		least := 0
		for ; least < 20; least++ {
			left := d.Crash(0)
			left.Stop(least)
			if m, _ := Open(example(), left); m != nil {
				break
			}
		}
		left := d.Crash(0)
		left.Stop(least + 1)
		if m, e := Open(example(), left); m == nil || e != api.OK || left.Stopped() {
			t.Errorf("P10: disk %d needs more than the %d steps with which Open = %v, %d", i, least, m, e)
		}
	}
}

// P2: neither the list nor its spare room is written into, and it is not kept.
func TestOpenKeepsNothing(t *testing.T) {
	room := append(example().Tiers, api.Tier{From: 77}, api.Tier{From: 78})
	before := slices.Clone(room)
	c := example()
	c.Tiers = room[:2]
	m := open(t, c, disk.New())
	ingest(t, m, 0, 0, 1, api.OK)
	if !slices.Equal(room, before) {
		t.Errorf("P2: the tiers were %v, are %v", before, room)
	}
	room[0] = api.Tier{From: 9, Width: 0}
	tick(t, m, 11, api.OK)
	query(t, m, 0, 0, 0, api.Cell{}, api.ErrOpen)
	tick(t, m, 1, api.OK)
	query(t, m, 0, 0, 0, api.Cell{}, api.ErrWait)
	ingest(t, m, 0, 12, 1, api.OK)
	stats(t, m, api.Stats{Now: 12, Used: 8, Held: 2, Waiting: 3})
}

// P2: mills on different disks.
func TestMillsApart(t *testing.T) {
	m, n := open(t, example(), disk.New()), open(t, example(), disk.New())
	ingest(t, m, 0, 0, 1, api.OK)
	tick(t, m, 9, api.OK)
	stats(t, n, api.Stats{})
	stats(t, m, api.Stats{Now: 9, Used: 5, Held: 1, Waiting: 2})
}

// P1: every call, at numbers as far off as they come.
func TestFarOff(t *testing.T) {
	far := []int{math.MinInt, math.MinInt + 1, math.MinInt32, -100001, -1, 0, 1, 100001, math.MaxInt32, math.MaxInt - 1, math.MaxInt}
	m := open(t, example(), disk.New())
	for _, a := range far {
		for _, b := range far {
			m.Ingest(a, b, math.MinInt32)
			m.Commit(api.Token{Epoch: a, Number: b})
			m.Fail(api.Token{Epoch: a, Number: b})
			for _, c := range far {
				m.Query(a, b, c)
			}
			Right(api.Config{Slots: a, Lease: b, Lag: a, Width: b, Keep: a, Quota: b, Tiers: []api.Tier{{From: a, Width: b, Keep: a}}})
			wide := example()
			wide.Tiers = []api.Tier{{From: a, Width: b}, {From: b, Width: a}}
			Right(wide)
		}
		m.Pick(a)
		m.Tick(a)
	}
	m.Jobs()
	m.Stats()
	if e := Right(api.Config{Slots: 1, Lease: 1, Width: 1, Quota: 1, Tiers: make([]api.Tier, 1<<20)}); e != api.ErrConfig {
		t.Errorf("P3: Right with a million tiers = %d, want ErrConfig", e)
	}
}
