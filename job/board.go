package job

import (
	"cmp"
	"maps"
	"slices"

	"mill/api"
	"mill/layout"
	"mill/lists"
	"mill/segment"
)

// key is by what a job is found.
type key struct {
	kind    int
	segment segment.Key
}

func keyOf(j Job) key { return key{kind: j.Kind(), segment: j.Segment()} }

// task is a job that is ready: since when, how often it was tried in vain, and up to when it rests.
type task struct {
	job                Job
	since, tries, rest int
}

type lease struct {
	job         key
	slot, until int
}

// Board has the jobs that are ready and not done. Whether one is leased stands with the leases alone, of which there are no more than slots.
type Board struct {
	layout layout.Layout
	epoch  int
	number int // of the lease that was given last
	tasks  map[key]task
	leases map[api.Token]lease
}

// New makes a board without jobs.
func New(l layout.Layout, epoch int) *Board {
	return &Board{layout: l, epoch: epoch, tasks: map[key]task{}, leases: map[api.Token]lease{}}
}

// Post puts up a job that is ready; one that is there already stays as it is.
func (b *Board) Post(j Job, now int) {
	if _, ok := b.tasks[keyOf(j)]; !ok {
		b.tasks[keyOf(j)] = task{job: j, since: now}
	}
}

// Busy tells whether a job is leased to a slot.
func (b *Board) Busy(slot int) bool {
	return lists.Count(maps.Values(b.leases), func(g lease) bool { return g.slot == slot }) > 0
}

// Next tells the first of the jobs that can be picked, if there is one.
func (b *Board) Next(now int, tight bool) (Job, bool) {
	free := lists.Where(maps.Values(b.tasks), func(t task) bool { return t.rest <= now && !b.leased(t) })
	first, ok := lists.First(free, b.order(now, tight))
	return first.job, ok
}

// Lease leases a job that can be picked to a slot that is not busy.
func (b *Board) Lease(j Job, slot, now int) api.Job {
	b.number++
	b.leases[api.Token{Epoch: b.epoch, Number: b.number}] = lease{job: keyOf(j), slot: slot, until: now + b.layout.Lease()}
	return b.tell(b.tasks[keyOf(j)])
}

func (b *Board) leased(t task) bool {
	return lists.Count(maps.Values(b.leases), func(g lease) bool { return g.job == keyOf(t.job) }) > 0
}

func (b *Board) order(now int, tight bool) func(x, y task) int {
	pressure := func(t task) int { return t.job.Due(b.layout) - (now-t.since)/4 }
	return func(x, y task) int {
		room := 0
		if tight {
			room = cmp.Compare(y.job.Kind(), x.job.Kind())
		}
		return cmp.Or(room, cmp.Compare(pressure(x), pressure(y)), byKey(x, y))
	}
}

// byKey tells all jobs apart, so that no choice hangs on the order in which a map is gone through.
func byKey(x, y task) int {
	j, k := keyOf(x.job), keyOf(y.job)
	return cmp.Or(cmp.Compare(j.kind, k.kind), segment.Order(j.segment, k.segment))
}

// Leased tells the job that is leased with a token, if there is one.
func (b *Board) Leased(t api.Token) (Job, bool) {
	g, ok := b.leases[t]
	return b.tasks[g.job].job, ok
}

// Done takes down the job that is leased with a token.
func (b *Board) Done(t api.Token) {
	delete(b.tasks, b.leases[t].job)
	delete(b.leases, t)
}

// Fail ends the lease with a token: its job was tried in vain, and rests the longer the more often that was so.
func (b *Board) Fail(t api.Token, now int) {
	k := b.leases[t].job
	failed := b.tasks[k]
	failed.tries++
	failed.rest = now + rest(failed.tries)
	b.tasks[k] = failed
	delete(b.leases, t)
}

// rest doubles step by step up to its bound: a power of great tries would wrap round.
func rest(tries int) int {
	long := 1
	for n := 0; n < tries && long < api.MaxRest; n++ {
		long *= 2
	}
	return long
}

// Expire fails all leases that have run out.
func (b *Board) Expire(now int) {
	for t, g := range b.leases {
		if g.until <= now {
			b.Fail(t, now)
		}
	}
}

// List tells all jobs, by kind, then tier, series, window.
func (b *Board) List() []api.Job {
	var out []api.Job
	for _, t := range slices.SortedFunc(maps.Values(b.tasks), byKey) {
		out = append(out, b.tell(t))
	}
	return out
}

func (b *Board) tell(t task) api.Job {
	k := keyOf(t.job)
	out := api.Job{Kind: k.kind, Tier: k.segment.Tier, Series: k.segment.Series, Window: k.segment.Window, Since: t.since, Tries: t.tries, Rest: t.rest, Slot: -1}
	for token, g := range b.leases {
		if g.job == k {
			out.Token, out.Slot, out.Until = token, g.slot, g.until
		}
	}
	return out
}
