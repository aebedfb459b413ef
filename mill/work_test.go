package mill

import (
	"math"
	"slices"
	"testing"

	"mill/api"
	"mill/disk"
)

// ready is a job that is not leased.
func ready(kind, tier, series, window, since int) api.Job {
	return api.Job{Kind: kind, Tier: tier, Series: series, Window: window, Since: since, Slot: -1}
}

// failed is a job with so many tries behind it.
func failed(j api.Job, tries, rest int) api.Job {
	j.Tries, j.Rest = tries, rest
	return j
}

// leased is a job that a mill leased to a slot.
func leased(m *Mill, j api.Job, number, slot, until int) api.Job {
	j.Token = api.Token{Epoch: m.Stats().Epoch, Number: number}
	j.Slot, j.Until = slot, until
	return j
}

func jobs(t *testing.T, m *Mill, want ...api.Job) {
	t.Helper()
	if got := m.Jobs(); !slices.Equal(got, want) {
		t.Fatalf("P9: Jobs = %+v, want %+v", got, want)
	}
}

func pick(t *testing.T, m *Mill, slot int, want api.Job) api.Token {
	t.Helper()
	got, e := m.Pick(slot)
	if got != want || e != api.OK {
		t.Fatalf("P7: Pick(%d) = %+v, %d, want %+v", slot, got, e, want)
	}
	return got.Token
}

// idle wants a Pick to be refused, and nothing to change by it.
func idle(t *testing.T, m *Mill, slot int, want api.Errno) {
	t.Helper()
	before := m.Jobs()
	if got, e := m.Pick(slot); got != (api.Job{}) || e != want {
		t.Fatalf("P7: Pick(%d) = %+v, %d, want %d", slot, got, e, want)
	}
	jobs(t, m, before...)
}

func commit(t *testing.T, m *Mill, k api.Token, want api.Errno) {
	t.Helper()
	if e := m.Commit(k); e != want {
		t.Fatalf("P8: Commit(%+v) = %d, want %d", k, e, want)
	}
}

func fail(t *testing.T, m *Mill, k api.Token, want api.Errno) {
	t.Helper()
	if e := m.Fail(k); e != want {
		t.Fatalf("P8: Fail(%+v) = %d, want %d", k, e, want)
	}
}

// do has slot 0 pick and commit jobs, which are wanted in this order, whatever the tokens.
func do(t *testing.T, m *Mill, want ...api.Job) {
	t.Helper()
	for _, j := range want {
		got, e := m.Pick(0)
		if e == api.OK {
			j = leased(m, j, got.Token.Number, 0, got.Until)
		}
		if got != j {
			t.Fatalf("P7: Pick(0) = %+v, %d, want %+v", got, e, j)
		}
		commit(t, m, got.Token, api.OK)
	}
}

// DOC.md's examples, all three.
func TestExamples(t *testing.T) {
	m := open(t, example(), disk.New())
	ingest(t, m, 0, 0, 7, api.OK)
	stats(t, m, api.Stats{Used: 5, Held: 1, Waiting: 2})
	tick(t, m, 1, api.OK)
	ingest(t, m, 0, 1, -3, api.OK)
	stats(t, m, api.Stats{Now: 1, Used: 6, Held: 1, Waiting: 2})
	query(t, m, -1, 0, 0, api.Cell{}, api.ErrOpen)
	tick(t, m, 11, api.OK)
	first := ready(api.Roll, 0, 0, 0, 12)
	jobs(t, m, first)
	query(t, m, 0, 0, 0, api.Cell{}, api.ErrWait)
	k := pick(t, m, 0, leased(m, first, 1, 0, 17))
	idle(t, m, 0, api.ErrSlot)
	commit(t, m, k, api.OK)
	cell := api.Cell{Count: 2, Sum: 4, Min: -3, Max: 7}
	query(t, m, 0, 0, 0, cell, api.OK)
	query(t, m, -1, 0, 0, cell, api.OK)
	jobs(t, m)

	tick(t, m, 10, api.OK)
	roll, reclaim := ready(api.Roll, 1, 0, 0, 22), ready(api.Reclaim, -1, 0, 0, 22)
	jobs(t, m, roll, reclaim)
	k = pick(t, m, 0, leased(m, reclaim, 2, 0, 27))
	commit(t, m, k, api.OK)
	stats(t, m, api.Stats{Now: 22, Used: 4, Waiting: 1, Published: 1, Gone: 1})
	query(t, m, -1, 0, 0, api.Cell{}, api.ErrGone)

	k = pick(t, m, 0, leased(m, roll, 3, 0, 27))
	tick(t, m, 5, api.OK)
	jobs(t, m, failed(roll, 1, 29))
	commit(t, m, k, api.ErrFenced)
	idle(t, m, 0, api.ErrIdle)
}

// rolls is a mill of four slots at NOW 12, with a Roll of each series.
func rolls(t *testing.T) *Mill {
	t.Helper()
	c := example()
	c.Slots = 4
	m := open(t, c, disk.New())
	for series := range 4 {
		ingest(t, m, series, 0, 1, api.OK)
	}
	tick(t, m, 12, api.OK)
	return m
}

func rollOf(series int) api.Job { return ready(api.Roll, 0, series, 0, 12) }

// P7: slots that are not, and slots that are busy, also if there is nothing to do.
func TestSlots(t *testing.T) {
	m := rolls(t)
	for _, slot := range []int{-1, 4, math.MinInt, math.MaxInt} {
		idle(t, m, slot, api.ErrSlot)
	}
	pick(t, m, 3, leased(m, rollOf(0), 1, 3, 17))
	idle(t, m, 3, api.ErrSlot)
	pick(t, m, 0, leased(m, rollOf(1), 2, 0, 17))
	k := pick(t, m, 2, leased(m, rollOf(2), 3, 2, 17))
	pick(t, m, 1, leased(m, rollOf(3), 4, 1, 17))
	for slot := range 4 {
		idle(t, m, slot, api.ErrSlot)
	}
	commit(t, m, k, api.OK)
	idle(t, m, 2, api.ErrIdle)
	idle(t, m, 1, api.ErrSlot)
	idle(t, m, 4, api.ErrSlot)
	for slots := 1; slots <= 4; slots++ {
		c := example()
		c.Slots = slots
		n := open(t, c, disk.New())
		idle(t, n, slots-1, api.ErrIdle)
		idle(t, n, slots, api.ErrSlot)
	}
}

// P7: only a Pick that is answered OK uses up a number.
func TestNumbersOfTokens(t *testing.T) {
	m := rolls(t)
	idle(t, m, 4, api.ErrSlot)
	fail(t, m, pick(t, m, 0, leased(m, rollOf(0), 1, 0, 17)), api.OK)
	pick(t, m, 0, leased(m, rollOf(1), 2, 0, 17))
	idle(t, m, 0, api.ErrSlot)
	fail(t, m, api.Token{}, api.ErrFenced)
	commit(t, m, pick(t, m, 1, leased(m, rollOf(2), 3, 1, 17)), api.OK)
	pick(t, m, 1, leased(m, rollOf(3), 4, 1, 17))
	idle(t, m, 2, api.ErrIdle)
	tick(t, m, 2, api.OK)
	pick(t, m, 2, leased(m, failed(rollOf(0), 1, 14), 5, 2, 19))
}

// P8: tokens of no lease; the right one is worth something still behind all of these.
func TestFenced(t *testing.T) {
	d := disk.New()
	before := open(t, example(), d)
	ingest(t, before, 0, 0, 1, api.OK)
	tick(t, before, 12, api.OK)
	old := pick(t, before, 0, leased(before, rollOf(0), 1, 0, 17))
	m := rolls(t)
	k := pick(t, m, 0, leased(m, rollOf(0), 1, 0, 17))
	for _, other := range []api.Token{{}, {Epoch: k.Epoch}, {Number: 1}, {Epoch: k.Epoch, Number: 2}, {Epoch: k.Epoch, Number: -1}, {Epoch: k.Epoch + 1, Number: 1}, {Epoch: k.Epoch - 1, Number: 1}, {Epoch: math.MinInt, Number: math.MaxInt}, {Epoch: 1, Number: k.Epoch + 1}} {
		commit(t, m, other, api.ErrFenced)
		fail(t, m, other, api.ErrFenced)
	}
	jobs(t, m, leased(m, rollOf(0), 1, 0, 17), rollOf(1), rollOf(2), rollOf(3))
	stats(t, m, api.Stats{Now: 12, Used: 20, Held: 4, Waiting: 8})
	commit(t, m, k, api.OK)
	commit(t, m, k, api.ErrFenced)
	fail(t, m, k, api.ErrFenced)
	stats(t, m, api.Stats{Now: 12, Used: 20, Held: 4, Waiting: 7, Published: 1})

	after := open(t, example(), d)
	commit(t, after, old, api.ErrFenced)
	fail(t, after, old, api.ErrFenced)
	if e := after.Stats().Epoch; e <= old.Epoch {
		t.Errorf("P3: epoch %d behind %d", e, old.Epoch)
	}
}

// P8: a job that failed rests, then goes to whoever picks it; the token that failed stays worth nothing.
func TestFailedTry(t *testing.T) {
	m := rolls(t)
	k := pick(t, m, 0, leased(m, rollOf(0), 1, 0, 17))
	fail(t, m, k, api.OK)
	jobs(t, m, failed(rollOf(0), 1, 14), rollOf(1), rollOf(2), rollOf(3))
	fail(t, m, k, api.ErrFenced)
	commit(t, m, k, api.ErrFenced)
	jobs(t, m, failed(rollOf(0), 1, 14), rollOf(1), rollOf(2), rollOf(3))
	do(t, m, rollOf(1), rollOf(2), rollOf(3))
	tick(t, m, 1, api.OK)
	idle(t, m, 0, api.ErrIdle)
	tick(t, m, 1, api.OK)
	next := pick(t, m, 3, leased(m, failed(rollOf(0), 1, 14), 5, 3, 19))
	commit(t, m, k, api.ErrFenced)
	fail(t, m, next, api.OK)
	jobs(t, m, failed(rollOf(0), 2, 18))
	tick(t, m, 4, api.OK)
	do(t, m, failed(rollOf(0), 2, 18))
	query(t, m, 0, 0, 0, api.Cell{Count: 1, Sum: 1, Min: 1, Max: 1}, api.OK)
}

// P5, P8: 32 is the longest rest, however a try fails and however often.
func TestLongestRest(t *testing.T) {
	m := open(t, example(), disk.New())
	ingest(t, m, 0, 0, 7, api.OK)
	tick(t, m, 12, api.OK)
	now, long := 12, 1
	for tries := range 90 {
		k := pick(t, m, 0, leased(m, failed(rollOf(0), tries, m.Jobs()[0].Rest), tries+1, 0, now+5))
		if tries%2 == 0 {
			fail(t, m, k, api.OK)
		} else {
			tick(t, m, 7, api.OK)
			now += 7
		}
		long = min(2*long, 32)
		jobs(t, m, failed(rollOf(0), tries+1, now+long))
		if long > 1 {
			tick(t, m, long-1, api.OK)
			idle(t, m, 0, api.ErrIdle)
		}
		tick(t, m, 1, api.OK)
		now += long
	}
}

// P5: a lease runs out with the Tick that comes to its UNTIL; one that goes beyond it counts as one try; others go on.
func TestLeasesRunOut(t *testing.T) {
	m := rolls(t)
	first := pick(t, m, 0, leased(m, rollOf(0), 1, 0, 17))
	tick(t, m, 4, api.OK)
	second := pick(t, m, 1, leased(m, rollOf(1), 2, 1, 21))
	jobs(t, m, leased(m, rollOf(0), 1, 0, 17), leased(m, rollOf(1), 2, 1, 21), rollOf(2), rollOf(3))
	tick(t, m, 0, api.ErrTime)
	tick(t, m, 1001, api.ErrTime)
	idle(t, m, 0, api.ErrSlot)
	tick(t, m, 1, api.OK)
	jobs(t, m, failed(rollOf(0), 1, 19), leased(m, rollOf(1), 2, 1, 21), rollOf(2), rollOf(3))
	commit(t, m, first, api.ErrFenced)
	pick(t, m, 0, leased(m, rollOf(2), 3, 0, 22))
	tick(t, m, 3, api.OK)
	commit(t, m, second, api.OK)
	tick(t, m, 900, api.OK)
	for _, j := range m.Jobs() {
		if j.Kind == api.Roll && j.Tier == 0 && j.Series == 2 && j != failed(rollOf(2), 1, 922) {
			t.Errorf("P5: %+v, want one try, and a rest up to 922", j)
		}
	}
	query(t, m, 0, 0, 0, api.Cell{}, api.ErrWait)
}

// P5, P8: a token is worth something up to the Tick with which its lease runs out.
func TestLastMoment(t *testing.T) {
	m := rolls(t)
	a, b := pick(t, m, 0, leased(m, rollOf(0), 1, 0, 17)), pick(t, m, 1, leased(m, rollOf(1), 2, 1, 17))
	tick(t, m, 4, api.OK)
	commit(t, m, a, api.OK)
	tick(t, m, 1, api.OK)
	commit(t, m, b, api.ErrFenced)
	fail(t, m, b, api.ErrFenced)
}

// crowded is a mill at NOW 22 that uses 9, with a Roll whose DUE is 20, between the Reclaims' 17 and 22.
func crowded(t *testing.T, quota int) (m *Mill, roll, early, late api.Job) {
	t.Helper()
	c := example()
	c.Quota, c.Keep = quota, 12
	m = open(t, c, disk.New())
	ingest(t, m, 0, 0, 1, api.OK) // 5
	tick(t, m, 10, api.OK)
	ingest(t, m, 0, 8, 1, api.OK) // 6
	tick(t, m, 2, api.OK)
	do(t, m, ready(api.Roll, 0, 0, 0, 12))
	ingest(t, m, 0, 12, 1, api.OK) // 9
	tick(t, m, 10, api.OK)
	roll, early, late = ready(api.Roll, 0, 0, 1, 22), ready(api.Reclaim, -1, 0, 0, 22), ready(api.Reclaim, -1, 0, 1, 22)
	jobs(t, m, roll, early, late)
	stats(t, m, api.Stats{Now: 22, Used: 9, Held: 3, Waiting: 2, Published: 1})
	return m, roll, early, late
}

// P7: if it is tight, a Reclaim goes ahead of a Roll; that is asked at each Pick, not when a job became ready.
func TestTightPick(t *testing.T) {
	next := ready(api.Roll, 1, 0, 0, 22) // its DUE is 20 too
	m, roll, early, late := crowded(t, 14)
	do(t, m, early, roll, next, late)
	m, roll, early, late = crowded(t, 14)
	ingest(t, m, 0, 22, 1, api.OK) // 14: 56 is above 42
	do(t, m, early, late, roll, next)
	m, roll, early, late = crowded(t, 18)
	ingest(t, m, 0, 22, 1, api.OK) // 56 is above 54, 52 is not
	do(t, m, early, roll, next, late)
}

// P7: the longer a job waits, the more it presses.
func TestWaitingPresses(t *testing.T) {
	c := api.Config{Slots: 1, Lease: 9, Width: 1, Quota: 100, Tiers: []api.Tier{{From: -1, Width: 1, Keep: 1000}}}
	begin := func(now int) (m *Mill, waiting, fresh api.Job) {
		m = open(t, c, disk.New())
		ingest(t, m, 0, 0, 1, api.OK)
		tick(t, m, 3, api.OK)
		ingest(t, m, 1, 3, 1, api.OK)
		tick(t, m, 1, api.OK)
		tick(t, m, now-4, api.OK)
		do(t, m, ready(api.Roll, 0, 0, 0, 3))
		return m, ready(api.Roll, 0, 1, 3, 4), ready(api.Reclaim, -1, 0, 0, now)
	}
	m, waiting, fresh := begin(15)
	do(t, m, fresh, waiting) // 1; 4 less 2 (of 11)
	m, waiting, fresh = begin(16)
	do(t, m, waiting, fresh) // 4 less 3; 1
}

// P9: SINCE is NOW behind the call that made a job ready, also if that went far beyond its time, or was a Commit.
func TestSince(t *testing.T) {
	m := open(t, example(), disk.New())
	ingest(t, m, 0, 0, 7, api.OK)
	tick(t, m, 11, api.OK)
	jobs(t, m)
	tick(t, m, 500, api.OK)
	first := ready(api.Roll, 0, 0, 0, 511)
	jobs(t, m, first)
	tick(t, m, 1, api.OK)
	jobs(t, m, first)
	do(t, m, first)
	second, raw := ready(api.Roll, 1, 0, 0, 512), ready(api.Reclaim, -1, 0, 0, 512)
	jobs(t, m, second, raw)
	tick(t, m, 3, api.OK)
	do(t, m, raw, second)
	jobs(t, m, ready(api.Reclaim, 0, 0, 0, 515), ready(api.Reclaim, 1, 0, 0, 515))
}

// P9, P13: nothing is ready ahead of its time: a Roll at its window's end and Lag, a Reclaim at that end and Keep, whichever is the longer.
func TestNotAheadOfTime(t *testing.T) {
	c := example()
	c.Lag, c.Keep, c.Tiers[0].Keep, c.Tiers[1].Keep = 9, 3, 0, 12
	m := open(t, c, disk.New())
	ingest(t, m, 0, 0, 7, api.OK)
	became := map[api.Job]int{}
	for now := 1; now <= 40; now++ {
		tick(t, m, 1, api.OK)
		for j, e := m.Pick(0); e == api.OK; j, e = m.Pick(0) {
			became[api.Job{Kind: j.Kind, Tier: j.Tier}] = now
			commit(t, m, j.Token, api.OK)
		}
	}
	for j, want := range map[api.Job]int{{Kind: 1, Tier: 0}: 19, {Kind: 1, Tier: 1}: 29, {Kind: 2, Tier: -1}: 19, {Kind: 2, Tier: 0}: 29, {Kind: 2, Tier: 1}: 32} {
		if became[j] != want {
			t.Errorf("P13: kind %d of tier %d was done at %d, want %d", j.Kind, j.Tier, became[j], want)
		}
	}
	stats(t, m, api.Stats{Now: 40, Gone: 3})
}

// P2: the lists that Jobs tells are the caller's, with their spare room.
func TestJobsAreFresh(t *testing.T) {
	m := rolls(t)
	pick(t, m, 2, leased(m, rollOf(0), 1, 2, 17))
	want := []api.Job{leased(m, rollOf(0), 1, 2, 17), rollOf(1), rollOf(2), rollOf(3)}
	first, second := m.Jobs(), m.Jobs()
	room := first[:cap(first)]
	for i := range room {
		room[i] = api.Job{Kind: 9, Slot: 9}
	}
	_ = append(first[:1], api.Job{Kind: 8})
	if !slices.Equal(second, want) {
		t.Errorf("P2: a list is %+v behind writing into another, want %+v", second, want)
	}
	jobs(t, m, want...)
	idle(t, m, 2, api.ErrSlot)
	pick(t, m, 0, leased(m, rollOf(1), 2, 0, 17))
}
