package mill

import (
	"math/rand"
	"slices"
	"strings"
	"testing"

	"mill/api"
	"mill/disk"
)

// keeps are numbers of loose bytes that a crash may leave: none, some, all.
func keeps() []int { return []int{-1, 0, 1, 2, 3, 5, 8, 13, 21, 34, 1000000} }

// sight is what a mill tells and outlives a crash.
type sight struct {
	stats api.Stats
	jobs  []api.Job
	cells []api.Cell
	errs  []api.Errno
}

// look asks a mill of the example's shape for all that it tells, as one that is opened anew tells it.
func look(m *Mill) sight {
	out := sight{stats: m.Stats(), jobs: m.Jobs()}
	out.stats.Epoch = 0
	for i, j := range out.jobs {
		out.jobs[i] = ready(j.Kind, j.Tier, j.Series, j.Window, out.stats.Now)
	}
	for tier := -1; tier < 2; tier++ {
		for series := range 4 {
			for window := range 12 {
				cell, e := m.Query(tier, series, window)
				out.cells, out.errs = append(out.cells, cell), append(out.errs, e)
			}
		}
	}
	return out
}

func (s sight) equal(other sight) bool {
	return s.stats == other.stats && slices.Equal(s.jobs, other.jobs) && slices.Equal(s.cells, other.cells) && slices.Equal(s.errs, other.errs)
}

// seen wants a mill to tell just that.
func seen(t *testing.T, m *Mill, want sight) {
	t.Helper()
	if got := look(m); !got.equal(want) {
		t.Fatalf("P12: it tells %+v, want %+v", got, want)
	}
}

// fresh wants that no job is leased or was tried, and that each is ready since NOW.
func fresh(t *testing.T, m *Mill) {
	t.Helper()
	jobs(t, m, look(m).jobs...)
}

// reopen opens a mill of the example on what a crash leaves, and wants it to be as the one ahead of it.
func reopen(t *testing.T, m *Mill, d *disk.Disk, keep int) (*Mill, *disk.Disk) {
	t.Helper()
	left := d.Crash(keep)
	x := open(t, example(), left)
	seen(t, x, look(m))
	fresh(t, x)
	if x.Stats().Epoch <= m.Stats().Epoch {
		t.Fatalf("P3: epoch %d behind %d", x.Stats().Epoch, m.Stats().Epoch)
	}
	return x, left
}

// P11, P12: DOC.md's examples, with a crash behind each call.
func TestExamplesOutlive(t *testing.T) {
	for _, keep := range keeps() {
		d := disk.New()
		m := open(t, example(), d)
		m, d = reopen(t, m, d, keep)
		ingest(t, m, 0, 0, 7, api.OK)
		m, d = reopen(t, m, d, keep)
		tick(t, m, 1, api.OK)
		m, d = reopen(t, m, d, keep)
		ingest(t, m, 0, 1, -3, api.OK)
		m, d = reopen(t, m, d, keep)
		tick(t, m, 11, api.OK)
		m, d = reopen(t, m, d, keep)
		jobs(t, m, ready(api.Roll, 0, 0, 0, 12))
		do(t, m, ready(api.Roll, 0, 0, 0, 12))
		m, d = reopen(t, m, d, keep)
		cell := api.Cell{Count: 2, Sum: 4, Min: -3, Max: 7}
		query(t, m, 0, 0, 0, cell, api.OK)
		query(t, m, -1, 0, 0, cell, api.OK)
		tick(t, m, 10, api.OK)
		m, d = reopen(t, m, d, keep)
		do(t, m, ready(api.Reclaim, -1, 0, 0, 22))
		m, d = reopen(t, m, d, keep)
		stats(t, m, api.Stats{Now: 22, Used: 4, Waiting: 1, Published: 1, Gone: 1})
		query(t, m, -1, 0, 0, api.Cell{}, api.ErrGone)
		do(t, m, ready(api.Roll, 1, 0, 0, 22))
		m, _ = reopen(t, m, d, keep)
		query(t, m, 1, 0, 0, cell, api.OK)
		jobs(t, m)
	}
}

// P12: leases, tries and rests end with their mill; the time that jobs have waited too. P8: so do tokens; P7: their numbers begin anew.
func TestLeasesEnd(t *testing.T) {
	for _, crash := range []bool{false, true} {
		d := disk.New()
		m := open(t, example(), d)
		ingest(t, m, 0, 0, 7, api.OK)
		ingest(t, m, 1, 0, 7, api.OK)
		tick(t, m, 12, api.OK)
		fail(t, m, pick(t, m, 0, leased(m, rollOf(0), 1, 0, 17)), api.OK)
		tick(t, m, 1, api.OK)
		old := pick(t, m, 0, leased(m, rollOf(1), 2, 0, 18))
		jobs(t, m, failed(rollOf(0), 1, 14), leased(m, rollOf(1), 2, 0, 18))
		if crash {
			d = d.Crash(0)
		}
		x := open(t, example(), d)
		first, second := ready(api.Roll, 0, 0, 0, 13), ready(api.Roll, 0, 1, 0, 13)
		jobs(t, x, first, second)
		commit(t, x, old, api.ErrFenced)
		fail(t, x, old, api.ErrFenced)
		jobs(t, x, first, second)
		k := pick(t, x, 0, leased(x, first, 1, 0, 18))
		commit(t, x, api.Token{Epoch: old.Epoch, Number: 1}, api.ErrFenced)
		commit(t, x, old, api.ErrFenced)
		commit(t, x, k, api.OK)
		commit(t, x, old, api.ErrFenced)
		stats(t, x, api.Stats{Now: 13, Used: 10, Held: 2, Waiting: 3, Published: 1})
	}
}

// step is a call that lays something down.
type step struct {
	name string
	call func(m *Mill, k api.Token) api.Errno
}

func steps() []step {
	return []step{
		{"Ingest into new segments", func(m *Mill, k api.Token) api.Errno { return m.Ingest(3, 22, -2147483648) }},
		{"Ingest into old segments", func(m *Mill, k api.Token) api.Errno { return m.Ingest(0, 20, 5) }},
		{"Tick", func(m *Mill, k api.Token) api.Errno { return m.Tick(1) }},
		{"Tick with which a lease runs out", func(m *Mill, k api.Token) api.Errno { return m.Tick(1000) }},
		{"Commit", func(m *Mill, k api.Token) api.Errno { return m.Commit(k) }},
	}
}

// busy is a mill at NOW 22 with a Reclaim or a Roll that is leased.
func busy(t *testing.T, kind int) (*Mill, *disk.Disk, api.Token) {
	t.Helper()
	d := disk.New()
	m := open(t, example(), d)
	ingest(t, m, 0, 0, 7, api.OK)
	tick(t, m, 12, api.OK)
	do(t, m, rollOf(0))
	tick(t, m, 10, api.OK)
	ingest(t, m, 0, 20, 9, api.OK)
	ingest(t, m, 0, 22, 9, api.OK)
	roll, reclaim := ready(api.Roll, 1, 0, 0, 22), ready(api.Reclaim, -1, 0, 0, 22)
	jobs(t, m, roll, reclaim)
	if kind == api.Reclaim {
		return m, d, pick(t, m, 0, leased(m, reclaim, 2, 0, 27))
	}
	do(t, m, reclaim)
	return m, d, pick(t, m, 0, leased(m, roll, 3, 0, 27))
}

// P11, P12: the disk stops at any step of any call: what was answered OK is there, what was not is there whole or not at all; and so it stays.
func TestStopsAtAnyStep(t *testing.T) {
	for _, s := range steps() {
		for kind := api.Roll; kind <= api.Reclaim; kind++ {
			for n := range 4 {
				m, d, k := busy(t, kind)
				other, _, l := busy(t, kind)
				ahead := look(m)
				if e := s.call(other, l); e != api.OK {
					t.Fatalf("%s = %d", s.name, e)
				}
				behind := look(other)
				d.Stop(n)
				e := s.call(m, k)
				if e != api.OK && e != api.ErrDown || e == api.ErrDown && !d.Stopped() || n == 0 && e == api.OK {
					t.Fatalf("P11: %s with %d steps left = %d", s.name, n, e)
				}
				if e == api.OK {
					seen(t, m, behind)
					ahead = behind
				} else if got := look(m); !got.equal(ahead) && !got.equal(behind) {
					t.Fatalf("P11: %s with %d steps left: questions are answered %+v", s.name, n, got)
				}
				for _, keep := range keeps() {
					either(t, d.Crash(keep), ahead, behind)
				}
			}
		}
	}
}

// either wants a mill on a disk to tell one of two things, and the same behind further crashes, also such that stop an Open.
func either(t *testing.T, d *disk.Disk, ahead, behind sight) {
	t.Helper()
	first := d.Crash(0)
	x := open(t, example(), first)
	got := look(x)
	if !got.equal(ahead) && !got.equal(behind) {
		t.Fatalf("P12: it tells %+v, want %+v or %+v", got, ahead, behind)
	}
	fresh(t, x)
	for n := range 8 {
		d.Stop(n)
		y, e := Open(example(), d)
		if (y == nil) != (e == api.ErrDown) || y != nil && e != api.OK || y == nil && !d.Stopped() {
			t.Fatalf("P10: Open with %d steps left = %v, %d", n, y, e)
		}
		if y != nil {
			seen(t, y, got)
		}
		d = d.Crash(n)
	}
	seen(t, open(t, example(), d), got)
	seen(t, open(t, example(), first.Crash(0)), got)
	tick(t, x, 3, api.OK)
	seen(t, open(t, example(), first.Crash(0)), look(x))
}

// down is a mill whose disk is stopped and that was asked for a Tick; its only slot is free or not.
func down(t *testing.T, free bool) (*Mill, *disk.Disk, api.Token) {
	t.Helper()
	m, d, k := busy(t, api.Reclaim)
	if free {
		fail(t, m, k, api.OK)
	}
	d.Stop(0)
	tick(t, m, 1, api.ErrDown)
	return m, d, k
}

// P11: behind ErrDown every call but a question is answered so, unless it has another error; and nothing changes.
func TestDown(t *testing.T) {
	m, d, k := down(t, false)
	told := look(m)
	list := m.Jobs()
	ingest(t, m, 0, 22, 1, api.ErrDown)
	tick(t, m, 1000, api.ErrDown)
	commit(t, m, k, api.ErrDown)
	fail(t, m, k, api.ErrDown)
	ingest(t, m, 4, 22, 1, api.ErrArg)
	ingest(t, m, 0, 23, 1, api.ErrTime)
	ingest(t, m, 0, 19, 1, api.ErrLate)
	tick(t, m, 0, api.ErrTime)
	tick(t, m, 1001, api.ErrTime)
	commit(t, m, api.Token{}, api.ErrFenced)
	fail(t, m, api.Token{}, api.ErrFenced)
	idle(t, m, 0, api.ErrSlot)
	idle(t, m, 1, api.ErrSlot)
	commit(t, m, k, api.ErrDown)
	seen(t, m, told)
	jobs(t, m, list...)
	if x, e := Open(example(), d); x != nil || e != api.ErrDown {
		t.Errorf("P10: Open = %v, %d, want nil, ErrDown", x, e)
	}

	m, _, k = down(t, true)
	idle(t, m, 0, api.ErrDown)
	idle(t, m, 0, api.ErrDown)
	idle(t, m, 1, api.ErrSlot)
	fail(t, m, k, api.ErrFenced)
	commit(t, m, k, api.ErrFenced)
}

// P11: ErrFull and ErrIdle go ahead of ErrDown too.
func TestDownAndFull(t *testing.T) {
	d := disk.New()
	c := example()
	c.Quota = 5
	m := open(t, c, d)
	ingest(t, m, 0, 0, 7, api.OK)
	d.Stop(0)
	tick(t, m, 1, api.ErrDown)
	ingest(t, m, 0, 0, 7, api.ErrFull)
	idle(t, m, 0, api.ErrIdle)
}

// P11: what lays nothing down needs no disk, as long as no call was lost. It takes no step, so it can't be the one that the disk stops at.
func TestStoppedUnseen(t *testing.T) {
	m, d, k := busy(t, api.Reclaim)
	d.Stop(0)
	fail(t, m, k, api.OK)
	roll := ready(api.Roll, 1, 0, 0, 22)
	next := pick(t, m, 0, leased(m, roll, 3, 0, 27))
	fail(t, m, next, api.OK)
	idle(t, m, 0, api.ErrIdle)
	told := look(m)
	ingest(t, m, 0, 22, 7, api.ErrDown)
	fail(t, m, next, api.ErrFenced)
	seen(t, m, told)
	seen(t, open(t, example(), d.Crash(1000)), told)

	m, d, k = busy(t, api.Reclaim)
	d.Stop(2)
	fail(t, m, k, api.OK)
	fail(t, m, pick(t, m, 0, leased(m, roll, 3, 0, 27)), api.OK)
	idle(t, m, 0, api.ErrIdle)
	m.Jobs()
	m.Stats()
	m.Query(0, 0, 0)
	ingest(t, m, 4, 22, 7, api.ErrArg)
	tick(t, m, 0, api.ErrTime)
	commit(t, m, k, api.ErrFenced)
	if d.Stopped() {
		t.Error("P11: Pick, Fail, a question or a call with an error has used up the disk's steps")
	}
}

// P10, P12: a mill that is opened again on the same disk, without a crash, goes on where the one ahead of it was.
func TestOpenedAgain(t *testing.T) {
	d := disk.New()
	m := open(t, example(), d)
	for i := range 30 {
		ingest(t, m, i%4, m.Stats().Now, int32(i-9), api.OK)
		tick(t, m, 1+i%2, api.OK)
		if job, e := m.Pick(0); e == api.OK && i%5 > 0 {
			commit(t, m, job.Token, api.OK)
		}
		x := open(t, example(), d)
		seen(t, x, look(m))
		fresh(t, x)
		if x.Stats().Epoch <= m.Stats().Epoch {
			t.Fatalf("P3: epoch %d behind %d", x.Stats().Epoch, m.Stats().Epoch)
		}
		m = x
	}
	if s := m.Stats(); s.Published == 0 || s.Gone == 0 || s.Held == 0 || s.Waiting == 0 {
		t.Errorf("only %+v came about", s)
	}
}

// try makes a call on a disk that may stop. If a call is lost for the first time, it tells the model behind that; the model itself stays as it was.
func (v *drive) try() *model {
	v.t.Helper()
	ahead, lost := v.o.clone(), v.lost
	v.call()
	behind := v.o
	if v.lost {
		v.o = ahead
	}
	v.compare()
	if lost || !v.lost {
		return nil
	}
	return behind
}

// crash lets the disk go down, and opens a mill on what is left, maybe not at once, maybe more than one. It tells whether that is as behind the call that was lost.
func (v *drive) crash(behind *model) bool {
	v.t.Helper()
	v.d = v.d.Crash(v.r.Intn(80) - 5)
	v.opened()
	v.lost = false
	epoch := v.m.Stats().Epoch
	ahead := v.o.reopened(epoch)
	v.o = ahead
	if behind != nil && v.m.Stats() != ahead.stats() {
		v.o = behind.reopened(epoch)
	}
	for v.r.Intn(3) == 0 {
		v.d = v.d.Crash(v.r.Intn(80) - 5)
		v.opened()
		v.o.epoch = v.m.Stats().Epoch
	}
	v.compare()
	v.compareCells()
	return v.o != ahead
}

// opened opens a mill on a disk that stops now and then; an epoch is above the last one.
func (v *drive) opened() {
	v.t.Helper()
	last := v.m.Stats().Epoch
	for {
		v.d.Stop(v.r.Intn(12))
		m, e := Open(v.o.c, v.d)
		if m != nil && e == api.OK {
			v.m = m
			break
		}
		if m != nil || e != api.ErrDown || !v.d.Stopped() {
			v.t.Fatalf("P10: Open = %v, %d", m, e)
		}
		v.d = v.d.Crash(v.r.Intn(80) - 5)
	}
	if epoch := v.m.Stats().Epoch; epoch <= last {
		v.t.Fatalf("P3: epoch %d behind %d", epoch, last)
	}
}

// P10 to P12: many mills of all shapes, each on what a crash left of the one ahead of it, are as the model is.
func TestCrashesAgainstModel(t *testing.T) {
	all := map[string]map[api.Errno]int{}
	took, not := 0, 0
	for seed := range int64(100) {
		v := newDrive(t, 1000+seed)
		v.seen = all
		for range 12 {
			v.d.Stop(v.r.Intn(50))
			var behind *model
			for i := 0; i < 80 && behind == nil; i++ {
				behind = v.try()
			}
			for range 12 {
				if lost := v.try(); lost != nil {
					behind = lost
				}
			}
			if v.crash(behind) {
				took++
			} else if behind != nil {
				not++
			}
		}
	}
	if took < 100 || not < 100 {
		t.Errorf("only %d lost calls were there behind the crash, %d were not", took, not)
	}
	enough(t, all, map[string][]api.Errno{
		"P4: Ingest": {api.OK, api.ErrArg, api.ErrTime, api.ErrLate, api.ErrFull, api.ErrDown},
		"P5: Tick":   {api.OK, api.ErrTime, api.ErrDown},
		"P7: Pick":   {api.OK, api.ErrSlot, api.ErrIdle, api.ErrDown},
		"P8: Commit": {api.OK, api.ErrFenced, api.ErrDown},
		"P8: Fail":   {api.OK, api.ErrFenced, api.ErrDown},
	})
}

// bytes tells how much is on a disk.
func bytes(d *disk.Disk) int {
	sum := 0
	for _, name := range d.Names() {
		sum += len(d.Read(name))
	}
	return sum
}

// work makes a call of a long history: numbers, time, and jobs that are done.
func work(m *Mill, i int) api.Errno {
	switch i % 4 {
	case 0, 1:
		return m.Ingest(i%3, m.Stats().Now, int32(i))
	case 2:
		return m.Tick(1)
	}
	job, e := m.Pick(0)
	if e != api.OK {
		return e
	}
	return m.Commit(job.Token)
}

// P11, P12: what is on the disk grows with what there is to tell, not with the calls that were made.
func TestLongHistory(t *testing.T) {
	d := disk.New()
	m := open(t, example(), d)
	for i := range 20000 {
		work(m, i)
		s := m.Stats()
		if there := s.Held + s.Waiting + s.Published + s.Gone; bytes(d) > 10000+100*there {
			t.Fatalf("%d bytes are on the disk behind %d calls, and %d segments are there", bytes(d), i, there)
		}
	}
	seen(t, open(t, example(), d.Crash(0)), look(m))
}

// P11, P12: a disk that stops while it is made shorter loses nothing, nor what came ahead of that, nor what came behind it.
func TestStopsWhileShorter(t *testing.T) {
	call, steps := shorter(t)
	for n := steps - 2; n < steps+10; n++ {
		d := disk.New()
		m, clean := open(t, example(), d), open(t, example(), disk.New())
		d.Stop(n)
		i := 0
		for ; i < call+6; i++ {
			e := work(m, i)
			if e == api.ErrDown {
				break
			}
			if f := work(clean, i); e != f {
				t.Fatalf("P11: call %d with %d steps = %d, want %d", i, n, e, f)
			}
		}
		ahead := look(clean)
		work(clean, i)
		for _, keep := range append(keeps(), 100, 1000) {
			either(t, d.Crash(keep), ahead, look(clean))
		}
	}
}

// shorter tells with which call of a history the disk has less to keep for the first time, and how many steps were done ahead of it: two for each call.
func shorter(t *testing.T) (call, steps int) {
	t.Helper()
	d := disk.New()
	m := open(t, example(), d)
	for i := range 10000 {
		before := bytes(d)
		if work(m, i) == api.OK {
			steps += 2
		}
		if bytes(d) < before {
			return i, steps - 2
		}
	}
	t.Fatal("10000 calls were made, and the disk never had less to keep")
	return 0, 0
}

// P1: whatever is on the disk, no call panics; nothing else is promised of what somebody else wrote, or a mill of another configuration.
func TestForeign(t *testing.T) {
	d := disk.New()
	m := open(t, example(), d)
	for i := range 60 {
		work(m, i)
	}
	for seed := range int64(300) {
		v := newDrive(t, 5000+seed)
		left := d.Crash(0)
		for _, name := range left.Names() {
			if v.r.Intn(4) == 0 {
				continue
			}
			text := spoilt(v.r, left.Read(name))
			left.Remove(name)
			left.Append(name, text)
		}
		x, e := Open(v.o.c, left)
		if x == nil || e != api.OK {
			t.Fatalf("Open = %v, %d", x, e)
		}
		anything(x, v.r)
		if y, e := Open(example(), left); y == nil || e != api.OK {
			t.Fatalf("Open = %v, %d", y, e)
		}
	}
}

// What somebody else wrote behind a mill's records, whole or torn, does not take these with it.
func TestForeignBehind(t *testing.T) {
	d := disk.New()
	m := open(t, example(), d)
	for i := range 60 {
		work(m, i)
	}
	for _, text := range []string{"x\n", "\n", "100001\n", "7 x\n9\n", "x"} {
		left := d.Crash(0)
		if !left.Has("records") {
			t.Fatal("there are no records on the disk")
		}
		left.Append("records", text)
		seen(t, open(t, example(), left), look(m))
	}
}

// spoilt puts other bytes, mostly such as are there already, here and there into a text.
func spoilt(r *rand.Rand, text string) string {
	out := []byte(text + "9")
	for range r.Intn(4) {
		i, k := r.Intn(len(out)), r.Intn(len(out))
		switch r.Intn(4) {
		case 0:
			out = slices.Insert(out, i, byte(r.Intn(256)))
		case 1:
			out[i] = out[k]
		case 2:
			out = slices.Insert(out, i, []byte(strings.Repeat("-9\n0 "[r.Intn(5):], 1+r.Intn(30)))...)
		default:
			out = append(out[:min(i, k)], out[max(i, k):]...)
			out = append(out, '\n')
		}
	}
	return string(out)
}

// anything makes calls of all kinds, whatever they are answered.
func anything(m *Mill, r *rand.Rand) {
	for range 60 {
		m.Ingest(r.Intn(4), m.Stats().Now-r.Intn(3), int32(r.Uint32()))
		m.Tick(1 + r.Intn(40))
		for slot := range 4 {
			if job, e := m.Pick(slot); e == api.OK && r.Intn(4) > 0 {
				m.Commit(job.Token)
			} else {
				m.Fail(job.Token)
			}
		}
		m.Query(r.Intn(5)-1, r.Intn(4), r.Intn(100))
	}
}
