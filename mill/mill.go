// Package mill: numbers rolled up, tier by tier: see DOC.md.
package mill

import (
	"mill/api"
	"mill/disk"
	"mill/job"
	"mill/journal"
	"mill/layout"
	"mill/segment"
)

// Mill has segments and jobs.
type Mill struct {
	layout   layout.Layout
	epoch    int
	now      int
	segments *segment.Set
	board    *job.Board
}

// Right tells whether a configuration is right (P3).
func Right(c api.Config) api.Errno {
	if !layout.Right(c) {
		return api.ErrConfig
	}
	return api.OK
}

// Open makes a mill of what is on a disk (P3, P10, P12).
func Open(c api.Config, d *disk.Disk) (*Mill, api.Errno) {
	if e := Right(c); e != api.OK {
		return nil, e
	}
	epoch, ok := journal.Begin(d)
	if !ok {
		return nil, api.ErrDown
	}
	l := layout.New(c)
	return &Mill{layout: l, epoch: epoch, segments: segment.New(l), board: job.New(l, epoch)}, api.OK
}

// Ingest takes a number (P4).
func (m *Mill) Ingest(series int, at int, value int32) api.Errno {
	switch {
	case !isSeries(series):
		return api.ErrArg
	case at < 0 || at > m.now:
		return api.ErrTime
	case at < m.now-m.layout.Lag():
		return api.ErrLate
	case m.segments.Used()+m.segments.Cost(series, at) > m.layout.Quota():
		return api.ErrFull
	}
	m.segments.Add(series, at, value)
	return api.OK
}

func isSeries(series int) bool { return series >= 0 && series < api.MaxSeries }

// Tick lets the time go on (P5).
func (m *Mill) Tick(n int) api.Errno {
	// n first: a great one would wrap round when it is added.
	if n < 1 || n > api.MaxTick || m.now+n > api.MaxNow {
		return api.ErrTime
	}
	m.now += n
	m.board.Expire(m.now)
	m.post()
	return api.OK
}

// post is called behind whatever makes jobs ready: time that goes by, and jobs that are done. (A number makes none: its windows are not closed.)
func (m *Mill) post() {
	for k := range m.segments.Rollable(m.now) {
		m.board.Post(job.Roll{Of: k}, m.now)
	}
	for k := range m.segments.Reclaimable(m.now) {
		m.board.Post(job.Reclaim{Of: k}, m.now)
	}
}

// Pick gives a slot a job (P7).
func (m *Mill) Pick(slot int) (api.Job, api.Errno) {
	if !m.layout.HasSlot(slot) || m.board.Busy(slot) {
		return api.Job{}, api.ErrSlot
	}
	picked, ok := m.board.Pick(slot, m.now, m.tight())
	if !ok {
		return api.Job{}, api.ErrIdle
	}
	return picked, api.OK
}

// Commit does a job (P8).
func (m *Mill) Commit(t api.Token) api.Errno {
	leased, ok := m.board.Leased(t)
	if !ok {
		return api.ErrFenced
	}
	m.do(leased)
	m.board.Done(t)
	m.post()
	return api.OK
}

func (m *Mill) do(j job.Job) {
	switch j := j.(type) {
	case job.Roll:
		m.segments.Publish(j.Of)
	case job.Reclaim:
		m.segments.Reclaim(j.Of)
	}
}

// Fail gives a job back (P8).
func (m *Mill) Fail(t api.Token) api.Errno {
	if _, ok := m.board.Leased(t); !ok {
		return api.ErrFenced
	}
	m.board.Fail(t, m.now)
	return api.OK
}

// Query tells a segment (P6).
func (m *Mill) Query(tier int, series int, window int) (api.Cell, api.Errno) {
	if !m.layout.Has(tier) || !isSeries(series) || window < 0 || window > api.MaxNow {
		return api.Cell{}, api.ErrArg
	}
	if !m.layout.Closed(tier, window, m.now) {
		return api.Cell{}, api.ErrOpen
	}
	state, cell := m.segments.Find(segment.Key{Tier: tier, Series: series, Window: window})
	switch state {
	case segment.Missing:
		return api.Cell{}, api.ErrEmpty
	case segment.Waiting:
		return api.Cell{}, api.ErrWait
	case segment.Reclaimed:
		return api.Cell{}, api.ErrGone
	}
	return cell, api.OK
}

// Jobs tells what is to be done (P9).
func (m *Mill) Jobs() []api.Job { return m.board.List() }

// Stats tells how it is (P9).
func (m *Mill) Stats() api.Stats {
	out := api.Stats{
		Now:       m.now,
		Used:      m.segments.Used(),
		Epoch:     m.epoch,
		Held:      m.segments.Count(segment.Held),
		Waiting:   m.segments.Count(segment.Waiting),
		Published: m.segments.Count(segment.Published),
		Gone:      m.segments.Count(segment.Reclaimed),
	}
	if m.tight() {
		out.Tight = 1
	}
	return out
}

// tight tells whether more than three quarters of the quota are used.
func (m *Mill) tight() bool { return 4*m.segments.Used() > 3*m.layout.Quota() }
