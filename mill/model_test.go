package mill

import (
	"cmp"
	"maps"
	"math/rand"
	"slices"
	"testing"

	"mill/api"
	"mill/disk"
)

// model keeps every number that was accepted, and tells all else from these and from what was done, word for word as DOC.md does.
type model struct {
	c         api.Config
	now       int
	epoch     int
	picks     int
	numbers   map[spot][]int32 // of all segments that are there
	published map[spot]bool
	reclaimed map[spot]bool
	work      []*api.Job // ready and not done
}

// spot is a segment.
type spot struct{ tier, series, window int }

func newModel(c api.Config, epoch int) *model {
	return &model{c: c, epoch: epoch, numbers: map[spot][]int32{}, published: map[spot]bool{}, reclaimed: map[spot]bool{}}
}

// clone shares nothing with the model that it is of.
func (o *model) clone() *model {
	out := *o
	out.numbers = map[spot][]int32{}
	for s, values := range o.numbers {
		out.numbers[s] = slices.Clone(values)
	}
	out.published, out.reclaimed = maps.Clone(o.published), maps.Clone(o.reclaimed)
	out.work = nil
	for _, j := range o.work {
		job := *j
		out.work = append(out.work, &job)
	}
	return &out
}

// reopened is the model of a mill that is opened on what is left of this one's.
func (o *model) reopened(epoch int) *model {
	out := o.clone()
	out.epoch, out.picks, out.work = epoch, 0, nil
	out.settle()
	return out
}

func (o *model) tier(tier int) api.Tier {
	if tier == -1 {
		return api.Tier{Width: o.c.Width, Keep: o.c.Keep}
	}
	return o.c.Tiers[tier]
}

func (o *model) end(s spot) int { return (s.window + 1) * o.tier(s.tier).Width }

func (o *model) closed(s spot) bool { return o.end(s) <= o.now-o.c.Lag }

// spotOf counts up to the window.
func (o *model) spotOf(tier, series, at int) spot {
	s := spot{tier, series, 0}
	for o.end(s) <= at {
		s.window++
	}
	return s
}

func (o *model) standsOn(s, below spot) bool {
	return s.tier >= 0 && o.c.Tiers[s.tier].From == below.tier && s.series == below.series &&
		o.end(s)-o.tier(s.tier).Width <= o.end(below)-o.tier(below.tier).Width && o.end(below) <= o.end(s)
}

func (o *model) held(s spot) bool { return s.tier == -1 && !o.reclaimed[s] }

func (o *model) waiting(s spot) bool { return s.tier >= 0 && !o.published[s] && !o.reclaimed[s] }

func (o *model) stats() api.Stats {
	s := api.Stats{Now: o.now, Epoch: o.epoch}
	for k, values := range o.numbers {
		switch {
		case o.held(k):
			s.Held++
			s.Used += len(values)
		case o.waiting(k):
			s.Waiting++
			s.Used += 2
		case o.reclaimed[k]:
			s.Gone++
		default:
			s.Published++
			s.Used += 2
		}
	}
	if 4*s.Used > 3*o.c.Quota {
		s.Tight = 1
	}
	return s
}

func (o *model) ready(kind int, s spot) bool {
	if kind == api.Roll {
		if !o.waiting(s) || !o.closed(s) {
			return false
		}
		for below := range o.numbers {
			if o.standsOn(s, below) && below.tier >= 0 && !o.published[below] {
				return false
			}
		}
		return true
	}
	if !o.held(s) && !o.published[s] || o.end(s)+o.tier(s.tier).Keep > o.now {
		return false
	}
	for above := range o.numbers {
		if o.standsOn(above, s) && !o.published[above] && !o.reclaimed[above] {
			return false
		}
	}
	return true
}

// settle finds the jobs that became ready with a call.
func (o *model) settle() {
	for s := range o.numbers {
		for kind := api.Roll; kind <= api.Reclaim; kind++ {
			known := slices.ContainsFunc(o.work, func(j *api.Job) bool { return j.Kind == kind && spotOfJob(j) == s })
			if o.reclaimed[s] || known || !o.ready(kind, s) {
				continue
			}
			o.work = append(o.work, &api.Job{Kind: kind, Tier: s.tier, Series: s.series, Window: s.window, Since: o.now, Slot: -1})
		}
	}
	slices.SortFunc(o.work, byName)
}

func spotOfJob(j *api.Job) spot { return spot{j.Tier, j.Series, j.Window} }

func byName(a, b *api.Job) int {
	return slices.Compare([]int{a.Kind, a.Tier, a.Series, a.Window}, []int{b.Kind, b.Tier, b.Series, b.Window})
}

func (o *model) jobs() []api.Job {
	var out []api.Job
	for _, j := range o.work {
		out = append(out, *j)
	}
	return out
}

func (o *model) ingest(series, at int, value int32) api.Errno {
	if series < 0 || series > 3 {
		return api.ErrArg
	}
	if at < 0 || at > o.now {
		return api.ErrTime
	}
	if at < o.now-o.c.Lag {
		return api.ErrLate
	}
	room := o.stats().Used + 1
	for tier := range o.c.Tiers {
		if o.numbers[o.spotOf(tier, series, at)] == nil {
			room += 2
		}
	}
	if room > o.c.Quota {
		return api.ErrFull
	}
	for tier := -1; tier < len(o.c.Tiers); tier++ {
		s := o.spotOf(tier, series, at)
		o.numbers[s] = append(o.numbers[s], value)
	}
	o.settle()
	return api.OK
}

func (o *model) tick(n int) api.Errno {
	if n < 1 || n > 1000 || o.now+n > 100000 {
		return api.ErrTime
	}
	o.now += n
	for _, j := range o.work {
		if j.Slot >= 0 && j.Until <= o.now {
			o.tried(j)
		}
	}
	o.settle()
	return api.OK
}

func (o *model) tried(j *api.Job) {
	j.Token, j.Slot, j.Until = api.Token{}, -1, 0
	j.Tries++
	power := 1
	for range j.Tries {
		power = min(2*power, 1000)
	}
	j.Rest = min(o.now+power, o.now+32)
}

func (o *model) pick(slot int) (api.Job, api.Errno) {
	if slot < 0 || slot >= o.c.Slots || slices.ContainsFunc(o.work, func(j *api.Job) bool { return j.Slot == slot }) {
		return api.Job{}, api.ErrSlot
	}
	var free []*api.Job
	for _, j := range o.work {
		if j.Slot == -1 && j.Rest <= o.now {
			free = append(free, j)
		}
	}
	if len(free) == 0 {
		return api.Job{}, api.ErrIdle
	}
	tight := o.stats().Tight == 1
	slices.SortFunc(free, func(a, b *api.Job) int {
		if tight && a.Kind != b.Kind {
			return b.Kind - a.Kind
		}
		return cmp.Or(o.pressure(a)-o.pressure(b), byName(a, b))
	})
	o.picks++
	free[0].Token, free[0].Slot, free[0].Until = api.Token{Epoch: o.epoch, Number: o.picks}, slot, o.now+o.c.Lease
	return *free[0], api.OK
}

func (o *model) pressure(j *api.Job) int {
	due := o.end(spotOfJob(j))
	if j.Kind == api.Reclaim {
		due += o.tier(j.Tier).Keep
	}
	return due - (o.now-j.Since)/4
}

func (o *model) leased(k api.Token) *api.Job {
	for _, j := range o.work {
		if j.Slot >= 0 && j.Token == k {
			return j
		}
	}
	return nil
}

func (o *model) commit(k api.Token) api.Errno {
	j := o.leased(k)
	if j == nil {
		return api.ErrFenced
	}
	s := spotOfJob(j)
	o.published[s] = j.Kind == api.Roll
	o.reclaimed[s] = j.Kind == api.Reclaim
	o.work = slices.DeleteFunc(o.work, func(w *api.Job) bool { return w == j })
	o.settle()
	return api.OK
}

func (o *model) fail(k api.Token) api.Errno {
	j := o.leased(k)
	if j == nil {
		return api.ErrFenced
	}
	o.tried(j)
	return api.OK
}

func (o *model) query(tier, series, window int) (api.Cell, api.Errno) {
	s := spot{tier, series, window}
	if tier < -1 || tier >= len(o.c.Tiers) || series < 0 || series > 3 || window < 0 || window > 100000 {
		return api.Cell{}, api.ErrArg
	}
	if !o.closed(s) {
		return api.Cell{}, api.ErrOpen
	}
	values := o.numbers[s]
	if values == nil {
		return api.Cell{}, api.ErrEmpty
	}
	if o.waiting(s) {
		return api.Cell{}, api.ErrWait
	}
	if o.reclaimed[s] {
		return api.Cell{}, api.ErrGone
	}
	cell := api.Cell{Min: values[0], Max: values[0]}
	for _, v := range values {
		cell.Count++
		cell.Sum += int64(v)
		cell.Min = min(cell.Min, v)
		cell.Max = max(cell.Max, v)
	}
	return cell, api.OK
}

// someConfig is right: each tier goes to -1 or to one that is there already.
func someConfig(r *rand.Rand) api.Config {
	c := api.Config{Slots: 1 + r.Intn(4), Lease: 1 + r.Intn(12), Lag: r.Intn(12), Width: 1 + r.Intn(6), Keep: r.Intn(20), Quota: 1 + r.Intn(200)}
	for tier := range 1 + r.Intn(4) {
		from := r.Intn(tier+1) - 1
		width := c.Width
		if from >= 0 {
			width = c.Tiers[from].Width
		}
		c.Tiers = append(c.Tiers, api.Tier{From: from, Width: width * (1 + r.Intn(3)), Keep: r.Intn(20)})
	}
	return turned(c, r)
}

// turned gives the tiers other numbers, so that one may be made of a later one.
func turned(c api.Config, r *rand.Rand) api.Config {
	place := r.Perm(len(c.Tiers))
	tiers := make([]api.Tier, len(c.Tiers))
	for i, t := range c.Tiers {
		if t.From >= 0 {
			t.From = place[t.From]
		}
		tiers[place[i]] = t
	}
	c.Tiers = tiers
	return c
}

// drive makes calls of all kinds on a mill and on the model, and wants the same answers.
type drive struct {
	t      *testing.T
	r      *rand.Rand
	d      *disk.Disk
	m      *Mill
	o      *model
	lost   bool        // a call was answered ErrDown
	tokens []api.Token // of all picks, and one that was never given
	marks  []spot      // raw segments that are there
	seen   map[string]map[api.Errno]int
}

func newDrive(t *testing.T, seed int64) *drive {
	r, d := rand.New(rand.NewSource(seed)), disk.New()
	c := someConfig(r)
	m := open(t, c, d)
	return &drive{t: t, r: r, d: d, m: m, o: newModel(c, m.Stats().Epoch), tokens: []api.Token{{}}, seen: map[string]map[api.Errno]int{}}
}

func (v *drive) saw(call string, e api.Errno) {
	if v.seen[call] == nil {
		v.seen[call] = map[api.Errno]int{}
	}
	v.seen[call][e]++
}

// answer holds an answer against the model's. A call may be lost if the disk is stopped, and then each that the model would answer OK is.
func (v *drive) answer(call string, got, want api.Errno) {
	v.t.Helper()
	down := want == api.OK && v.d.Stopped() && (v.lost || got == api.ErrDown)
	if down {
		want = api.ErrDown
	}
	if got != want {
		v.t.Fatalf("%s = %d, want %d", call, got, want)
	}
	v.lost = v.lost || down
	v.saw(call, want)
}

func (v *drive) ingest() {
	series, at, value := v.r.Intn(6)-1, v.o.now-v.r.Intn(v.o.c.Lag+4)+2, int32(v.r.Uint32())
	want := v.o.ingest(series, at, value)
	if want == api.OK {
		v.marks = append(v.marks, v.o.spotOf(-1, series, at))
	}
	v.answer("P4: Ingest", v.m.Ingest(series, at, value), want)
}

func (v *drive) tick() {
	n := v.r.Intn(8) - 1
	want := v.o.tick(n)
	v.answer("P5: Tick", v.m.Tick(n), want)
}

func (v *drive) query() {
	tier, series := v.r.Intn(len(v.o.c.Tiers)+3)-2, v.r.Intn(6)-1
	window := v.r.Intn(v.o.now/v.o.c.Width+3) - 1
	if len(v.marks) > 0 && v.r.Intn(4) > 0 {
		mark := v.marks[v.r.Intn(len(v.marks))]
		tier = v.r.Intn(len(v.o.c.Tiers)+1) - 1
		series, window = mark.series, v.o.spotOf(tier, mark.series, mark.window*v.o.c.Width).window
	}
	cell, want := v.o.query(tier, series, window)
	query(v.t, v.m, tier, series, window, cell, want)
	v.saw("P6: Query", want)
}

func (v *drive) pick() {
	slot := v.r.Intn(v.o.c.Slots+2) - 1
	job, want := v.o.pick(slot)
	got, e := v.m.Pick(slot)
	v.answer("P7: Pick", e, want)
	if e == api.ErrDown {
		job = api.Job{}
	}
	if got != job {
		v.t.Fatalf("P7: Pick(%d) = %+v, want %+v", slot, got, job)
	}
	if e == api.OK {
		v.tokens = append(v.tokens, job.Token)
	}
}

// token is mostly one of a lease, else one of the last that were given, or beside these.
func (v *drive) token() api.Token {
	for _, j := range v.o.work {
		if j.Slot >= 0 && v.r.Intn(3) > 0 {
			return j.Token
		}
	}
	last := v.tokens[max(0, len(v.tokens)-1-v.r.Intn(4))]
	switch v.r.Intn(10) {
	case 0:
		last.Number++
	case 1:
		last.Epoch++
	}
	return last
}

func (v *drive) commit() {
	k := v.token()
	want := v.o.commit(k)
	v.answer("P8: Commit", v.m.Commit(k), want)
}

func (v *drive) fail() {
	k := v.token()
	want := v.o.fail(k)
	v.answer("P8: Fail", v.m.Fail(k), want)
}

func (v *drive) call() {
	switch v.r.Intn(24) {
	case 0, 1, 2:
		v.tick()
	case 3, 4:
		v.query()
	case 5, 6, 7, 8, 9:
		v.pick()
	case 10, 11, 12, 13:
		v.commit()
	case 14:
		v.fail()
	default:
		v.ingest()
	}
}

// compare holds all that is told against each other.
func (v *drive) compare() {
	v.t.Helper()
	if got, want := v.m.Stats(), v.o.stats(); got != want {
		v.t.Fatalf("P9: Stats = %+v, want %+v", got, want)
	}
	jobs(v.t, v.m, v.o.jobs()...)
}

func (v *drive) compareCells() {
	v.t.Helper()
	for k := range v.o.numbers {
		cell, want := v.o.query(k.tier, k.series, k.window)
		query(v.t, v.m, k.tier, k.series, k.window, cell, want)
	}
}

// unready wants that a job stays ready till it is done, as DOC.md says.
func (v *drive) unready() {
	for _, j := range v.o.work {
		if !v.o.ready(j.Kind, spotOfJob(j)) {
			v.t.Fatalf("%+v is not ready any more", *j)
		}
	}
}

// P3 to P9: many calls on mills of all shapes are answered as the model answers.
func TestAgainstModel(t *testing.T) {
	seen := map[string]map[api.Errno]int{}
	for seed := range int64(150) {
		v := newDrive(t, seed)
		v.seen = seen
		for range 300 {
			v.call()
			v.compare()
		}
		v.unready()
		v.compareCells()
		v.drain()
		v.compareCells()
	}
	enough(t, seen, map[string][]api.Errno{
		"P4: Ingest": {api.OK, api.ErrArg, api.ErrTime, api.ErrLate, api.ErrFull},
		"P5: Tick":   {api.OK, api.ErrTime},
		"P6: Query":  {api.OK, api.ErrArg, api.ErrOpen, api.ErrEmpty, api.ErrWait, api.ErrGone},
		"P7: Pick":   {api.OK, api.ErrSlot, api.ErrIdle},
		"P8: Commit": {api.OK, api.ErrFenced},
		"P8: Fail":   {api.OK, api.ErrFenced},
	})
}

// enough wants each of these answers to have come often.
func enough(t *testing.T, seen map[string]map[api.Errno]int, want map[string][]api.Errno) {
	t.Helper()
	for call, answers := range want {
		for _, e := range answers {
			if seen[call][e] < 100 {
				t.Errorf("only %d calls of %s were answered %d", seen[call][e], call, e)
			}
		}
	}
}

// drain lets all leases and rests run out; then one slot does all that there is to do, twice as many jobs as there are segments at most (P13).
func (v *drive) drain() {
	v.t.Helper()
	for range 2 {
		tick(v.t, v.m, 40, v.o.tick(40))
	}
	for range 2*len(v.o.numbers) + 1 {
		job, e := v.o.pick(0)
		if got, f := v.m.Pick(0); got != job || f != e {
			v.t.Fatalf("P7: Pick(0) = %+v, %d, want %+v, %d", got, f, job, e)
		}
		if e == api.ErrIdle {
			jobs(v.t, v.m)
			return
		}
		commit(v.t, v.m, job.Token, v.o.commit(job.Token))
		v.compare()
	}
	v.t.Fatalf("P13: jobs are left behind %d of them", 2*len(v.o.numbers)+1)
}

// P2: a question changes nothing, not even the answer to itself.
func TestQuestionsChangeNothing(t *testing.T) {
	r := rand.New(rand.NewSource(1))
	c := example()
	asked, left := open(t, c, disk.New()), open(t, c, disk.New())
	for range 300 {
		series, at, n := r.Intn(4), asked.Stats().Now, 1+r.Intn(3)
		for tier := -1; tier < 2; tier++ {
			for window := range 12 {
				asked.Query(tier, series, window)
			}
		}
		asked.Jobs()
		asked.Stats()
		ingest(t, asked, series, at, 5, left.Ingest(series, at, 5))
		tick(t, asked, n, left.Tick(n))
		job, e := left.Pick(0)
		if got, f := asked.Pick(0); got != job || f != e {
			t.Fatalf("P2: Pick(0) = %+v, %d, want %+v, %d", got, f, job, e)
		}
		if r.Intn(3) > 0 {
			commit(t, asked, job.Token, left.Commit(job.Token))
		}
		stats(t, asked, left.Stats())
		jobs(t, asked, left.Jobs()...)
	}
}
