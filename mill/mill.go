// Package mill: numbers rolled up, tier by tier: see DOC.md.
package mill

import (
	"mill/api"
	"mill/disk"
	"mill/journal"
	"mill/layout"
	"mill/segment"
)

// Mill has segments and jobs.
type Mill struct {
	layout   layout.Layout
	epoch    int
	now      int
	segments *segment.Set
}

// Right tells whether a configuration is right (P3).
func Right(c api.Config) api.Errno {
	if !layout.Right(c) {
		return api.ErrConfig
	}
	return api.OK
}

// Open makes a mill of what is on a disk (P3, P10, P12).
func Open(c api.Config, d *disk.Disk) (*Mill, api.Errno) {
	if e := Right(c); e != api.OK {
		return nil, e
	}
	epoch, ok := journal.Begin(d)
	if !ok {
		return nil, api.ErrDown
	}
	l := layout.New(c)
	return &Mill{layout: l, epoch: epoch, segments: segment.New(l)}, api.OK
}

// Ingest takes a number (P4).
func (m *Mill) Ingest(series int, at int, value int32) api.Errno {
	switch {
	case !isSeries(series):
		return api.ErrArg
	case at < 0 || at > m.now:
		return api.ErrTime
	case at < m.now-m.layout.Lag():
		return api.ErrLate
	case m.segments.Used()+m.segments.Cost(series, at) > m.layout.Quota():
		return api.ErrFull
	}
	m.segments.Add(series, at, value)
	return api.OK
}

func isSeries(series int) bool { return series >= 0 && series < api.MaxSeries }

// Tick lets the time go on (P5).
func (m *Mill) Tick(n int) api.Errno {
	// n first: a great one would wrap round when it is added.
	if n < 1 || n > api.MaxTick || m.now+n > api.MaxNow {
		return api.ErrTime
	}
	m.now += n
	return api.OK
}

// Pick gives a slot a job (P7).
func (m *Mill) Pick(slot int) (api.Job, api.Errno) { return api.Job{}, api.OK }

// Commit does a job (P8).
func (m *Mill) Commit(t api.Token) api.Errno { return api.OK }

// Fail gives a job back (P8).
func (m *Mill) Fail(t api.Token) api.Errno { return api.OK }

// Query tells a segment (P6).
func (m *Mill) Query(tier int, series int, window int) (api.Cell, api.Errno) {
	if !m.layout.Has(tier) || !isSeries(series) || window < 0 || window > api.MaxNow {
		return api.Cell{}, api.ErrArg
	}
	if !m.closed(tier, window) {
		return api.Cell{}, api.ErrOpen
	}
	state, cell := m.segments.Find(segment.Key{Tier: tier, Series: series, Window: window})
	switch state {
	case segment.Missing:
		return api.Cell{}, api.ErrEmpty
	case segment.Waiting:
		return api.Cell{}, api.ErrWait
	case segment.Reclaimed:
		return api.Cell{}, api.ErrGone
	}
	return cell, api.OK
}

func (m *Mill) closed(tier, window int) bool {
	return m.layout.End(tier, window) <= m.now-m.layout.Lag()
}

// Jobs tells what is to be done (P9).
func (m *Mill) Jobs() []api.Job { return nil }

// Stats tells how it is (P9).
func (m *Mill) Stats() api.Stats {
	used := m.segments.Used()
	return api.Stats{
		Now:       m.now,
		Used:      used,
		Tight:     tight(used, m.layout.Quota()),
		Epoch:     m.epoch,
		Held:      m.segments.Count(segment.Held),
		Waiting:   m.segments.Count(segment.Waiting),
		Published: m.segments.Count(segment.Published),
		Gone:      m.segments.Count(segment.Reclaimed),
	}
}

// tight is 1 if more than three quarters of the quota are used, else 0.
func tight(used, quota int) int {
	if 4*used > 3*quota {
		return 1
	}
	return 0
}
