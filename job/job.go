// Package job: what is to be done, what of it comes first, and to whom it is leased.
package job

import (
	"mill/api"
	"mill/layout"
	"mill/segment"
)

// Job is something to be done with a segment.
type Job interface {
	Kind() int
	Segment() segment.Key
	Due(l layout.Layout) int
}

// Roll makes the cell of a segment.
type Roll struct{ Of segment.Key }

// Reclaim gives a segment up.
type Reclaim struct{ Of segment.Key }

// Kind tells that it is a Roll.
func (r Roll) Kind() int { return api.Roll }

// Kind tells that it is a Reclaim.
func (r Reclaim) Kind() int { return api.Reclaim }

// Segment tells whose cell is to be made.
func (r Roll) Segment() segment.Key { return r.Of }

// Segment tells what is to be given up.
func (r Reclaim) Segment() segment.Key { return r.Of }

// Due tells when the numbers have come.
func (r Roll) Due(l layout.Layout) int { return l.End(r.Of.Tier, r.Of.Window) }

// Due tells when it need not be kept any more.
func (r Reclaim) Due(l layout.Layout) int { return l.KeptUntil(r.Of.Tier, r.Of.Window) }
