// Package mill: numbers rolled up, tier by tier: see DOC.md.
package mill

import (
	"iter"

	"mill/api"
	"mill/disk"
	"mill/job"
	"mill/journal"
	"mill/layout"
	"mill/record"
	"mill/segment"
)

// Mill has segments and jobs.
type Mill struct {
	layout   layout.Layout
	epoch    int
	now      int
	segments *segment.Set
	board    *job.Board
	journal  *journal.Journal
	down     bool // a call was answered ErrDown
}

// Right tells whether a configuration is right (P3).
func Right(c api.Config) api.Errno {
	if !layout.Right(c) {
		return api.ErrConfig
	}
	return api.OK
}

// Open makes a mill of what is on a disk (P3, P10, P12).
func Open(c api.Config, d *disk.Disk) (*Mill, api.Errno) {
	if e := Right(c); e != api.OK {
		return nil, e
	}
	epoch, ok := journal.Begin(d)
	if !ok {
		return nil, api.ErrDown
	}
	l := layout.New(c)
	m := &Mill{layout: l, epoch: epoch, segments: segment.New(l), board: job.New(l, epoch), journal: journal.New(d)}
	m.recall(journal.Records(d))
	if !m.renew() {
		return nil, api.ErrDown
	}
	m.post()
	return m, api.OK
}

// recall goes up to what somebody else wrote: on such a disk nothing is promised, but that no call panics.
func (m *Mill) recall(lines iter.Seq[string]) {
	for line := range lines {
		r, ok := record.Read(line, m.layout)
		if !ok {
			return
		}
		m.take(r)
	}
}

func (m *Mill) take(r record.Record) {
	m.now = r.Now
	m.segments.Put(r.Segments)
}

// renew lays down all that is so, in place of how it came to be so.
func (m *Mill) renew() bool {
	return m.journal.Renew(record.Write(record.Record{Now: m.now, Segments: m.segments.All()}))
}

// settle makes safe what a call comes to, and only then lets it be so.
func (m *Mill) settle(now int, changed []segment.Segment) api.Errno {
	r := record.Record{Now: now, Segments: changed}
	if !m.journal.Lay(record.Write(r)) {
		m.down = true
		return api.ErrDown
	}
	m.take(r)
	if m.journal.Long() {
		// The call is safe already: if the disk refuses this, it is the next one that can't be.
		m.renew()
	}
	return api.OK
}

// Ingest takes a number (P4).
func (m *Mill) Ingest(series int, at int, value int32) api.Errno {
	switch {
	case !isSeries(series):
		return api.ErrArg
	case at < 0 || at > m.now:
		return api.ErrTime
	case at < m.now-m.layout.Lag():
		return api.ErrLate
	case m.segments.Used()+m.segments.Cost(series, at) > m.layout.Quota():
		return api.ErrFull
	}
	return m.settle(m.now, m.segments.Added(series, at, value))
}

func isSeries(series int) bool { return series >= 0 && series < api.MaxSeries }

// Tick lets the time go on (P5).
func (m *Mill) Tick(n int) api.Errno {
	// n first: a great one would wrap round when it is added.
	if n < 1 || n > api.MaxTick || m.now+n > api.MaxNow {
		return api.ErrTime
	}
	if e := m.settle(m.now+n, nil); e != api.OK {
		return e
	}
	m.board.Expire(m.now)
	m.post()
	return api.OK
}

// post is called behind whatever makes jobs ready: time that goes by, and jobs that are done. (A number makes none: its windows are not closed.)
func (m *Mill) post() {
	for k := range m.segments.Rollable(m.now) {
		m.board.Post(job.Roll{Of: k}, m.now)
	}
	for k := range m.segments.Reclaimable(m.now) {
		m.board.Post(job.Reclaim{Of: k}, m.now)
	}
}

// Pick gives a slot a job (P7).
func (m *Mill) Pick(slot int) (api.Job, api.Errno) {
	if !m.layout.HasSlot(slot) || m.board.Busy(slot) {
		return api.Job{}, api.ErrSlot
	}
	next, ok := m.board.Next(m.now, m.tight())
	if !ok {
		return api.Job{}, api.ErrIdle
	}
	if m.down {
		return api.Job{}, api.ErrDown
	}
	return m.board.Lease(next, slot, m.now), api.OK
}

// Commit does a job (P8).
func (m *Mill) Commit(t api.Token) api.Errno {
	leased, ok := m.board.Leased(t)
	if !ok {
		return api.ErrFenced
	}
	if e := m.settle(m.now, m.done(leased)); e != api.OK {
		return e
	}
	m.board.Done(t)
	m.post()
	return api.OK
}

// done tells what changes with a job that is done.
func (m *Mill) done(j job.Job) []segment.Segment {
	switch j := j.(type) {
	case job.Roll:
		return []segment.Segment{m.segments.Rolled(j.Of)}
	case job.Reclaim:
		return []segment.Segment{{Key: j.Of, State: segment.Reclaimed}}
	}
	return nil
}

// Fail gives a job back (P8).
func (m *Mill) Fail(t api.Token) api.Errno {
	if _, ok := m.board.Leased(t); !ok {
		return api.ErrFenced
	}
	if m.down {
		return api.ErrDown
	}
	m.board.Fail(t, m.now)
	return api.OK
}

// Query tells a segment (P6).
func (m *Mill) Query(tier int, series int, window int) (api.Cell, api.Errno) {
	if !m.layout.Has(tier) || !isSeries(series) || window < 0 || window > api.MaxNow {
		return api.Cell{}, api.ErrArg
	}
	if !m.layout.Closed(tier, window, m.now) {
		return api.Cell{}, api.ErrOpen
	}
	state, cell := m.segments.Find(segment.Key{Tier: tier, Series: series, Window: window})
	switch state {
	case segment.Missing:
		return api.Cell{}, api.ErrEmpty
	case segment.Waiting:
		return api.Cell{}, api.ErrWait
	case segment.Reclaimed:
		return api.Cell{}, api.ErrGone
	}
	return cell, api.OK
}

// Jobs tells what is to be done (P9).
func (m *Mill) Jobs() []api.Job { return m.board.List() }

// Stats tells how it is (P9).
func (m *Mill) Stats() api.Stats {
	out := api.Stats{
		Now:       m.now,
		Used:      m.segments.Used(),
		Epoch:     m.epoch,
		Held:      m.segments.Count(segment.Held),
		Waiting:   m.segments.Count(segment.Waiting),
		Published: m.segments.Count(segment.Published),
		Gone:      m.segments.Count(segment.Reclaimed),
	}
	if m.tight() {
		out.Tight = 1
	}
	return out
}

// tight tells whether more than three quarters of the quota are used.
func (m *Mill) tight() bool { return 4*m.segments.Used() > 3*m.layout.Quota() }
