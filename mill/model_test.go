package mill

import (
	"math/rand"
	"testing"

	"mill/api"
	"mill/disk"
)

// model keeps every number that was accepted, and tells all else from these, word for word as DOC.md does.
type model struct {
	c        api.Config
	now      int
	accepted []number
}

type number struct {
	series, at int
	value      int32
}

// spot is a segment.
type spot struct{ tier, series, window int }

func (o *model) width(tier int) int {
	if tier == -1 {
		return o.c.Width
	}
	return o.c.Tiers[tier].Width
}

func (o *model) spotOf(n number, tier int) spot {
	window := 0
	for (window+1)*o.width(tier) <= n.at {
		window++
	}
	return spot{tier, n.series, window}
}

func (o *model) there() map[spot][]int32 {
	out := map[spot][]int32{}
	for _, n := range o.accepted {
		for tier := -1; tier < len(o.c.Tiers); tier++ {
			s := o.spotOf(n, tier)
			out[s] = append(out[s], n.value)
		}
	}
	return out
}

func (o *model) stats() api.Stats {
	s := api.Stats{Now: o.now}
	for k, values := range o.there() {
		if k.tier == -1 {
			s.Held++
			s.Used += len(values)
		} else {
			s.Waiting++
			s.Used += 2
		}
	}
	if 4*s.Used > 3*o.c.Quota {
		s.Tight = 1
	}
	return s
}

func (o *model) ingest(series, at int, value int32) api.Errno {
	n := number{series, at, value}
	if series < 0 || series > 3 {
		return api.ErrArg
	}
	if at < 0 || at > o.now {
		return api.ErrTime
	}
	if at < o.now-o.c.Lag {
		return api.ErrLate
	}
	there, room := o.there(), o.stats().Used+1
	for tier := range o.c.Tiers {
		if there[o.spotOf(n, tier)] == nil {
			room += 2
		}
	}
	if room > o.c.Quota {
		return api.ErrFull
	}
	o.accepted = append(o.accepted, n)
	return api.OK
}

func (o *model) tick(n int) api.Errno {
	if n < 1 || n > 1000 || o.now+n > 100000 {
		return api.ErrTime
	}
	o.now += n
	return api.OK
}

func (o *model) query(tier, series, window int) (api.Cell, api.Errno) {
	if tier < -1 || tier >= len(o.c.Tiers) || series < 0 || series > 3 || window < 0 || window > 100000 {
		return api.Cell{}, api.ErrArg
	}
	if (window+1)*o.width(tier) > o.now-o.c.Lag {
		return api.Cell{}, api.ErrOpen
	}
	values := o.there()[spot{tier, series, window}]
	if values == nil {
		return api.Cell{}, api.ErrEmpty
	}
	if tier != -1 {
		return api.Cell{}, api.ErrWait
	}
	cell := api.Cell{Min: values[0], Max: values[0]}
	for _, v := range values {
		cell.Count++
		cell.Sum += int64(v)
		cell.Min = min(cell.Min, v)
		cell.Max = max(cell.Max, v)
	}
	return cell, api.OK
}

// someConfig is right: each tier goes to -1 or to one that is there already.
func someConfig(r *rand.Rand) api.Config {
	c := api.Config{Slots: 1 + r.Intn(4), Lease: 1 + r.Intn(100), Lag: r.Intn(12), Width: 1 + r.Intn(6), Keep: r.Intn(20), Quota: 1 + r.Intn(120)}
	for tier := range 1 + r.Intn(4) {
		from := r.Intn(tier+1) - 1
		width := c.Width
		if from >= 0 {
			width = c.Tiers[from].Width
		}
		c.Tiers = append(c.Tiers, api.Tier{From: from, Width: width * (1 + r.Intn(3)), Keep: r.Intn(20)})
	}
	return c
}

// P3 to P6, P9: some thousand calls on mills of all shapes are answered as the model answers.
func TestAgainstModel(t *testing.T) {
	seen := map[api.Errno]int{}
	for seed := range int64(200) {
		r := rand.New(rand.NewSource(seed))
		c := someConfig(r)
		m, o := open(t, c, disk.New()), &model{c: c}
		for range 120 {
			switch r.Intn(8) {
			case 0:
				n := r.Intn(8) - 1
				want := o.tick(n)
				tick(t, m, n, want)
			case 1, 2:
				tier, series := r.Intn(len(c.Tiers)+3)-2, r.Intn(6)-1
				window := r.Intn(o.now/c.Width+3) - 1
				cell, want := o.query(tier, series, window)
				query(t, m, tier, series, window, cell, want)
				seen[want]++
			default:
				series, at, value := r.Intn(6)-1, o.now-r.Intn(c.Lag+4)+2, int32(r.Uint32())
				want := o.ingest(series, at, value)
				ingest(t, m, series, at, value, want)
				seen[want]++
			}
			stats(t, m, o.stats())
		}
		for k := range o.there() {
			cell, want := o.query(k.tier, k.series, k.window)
			query(t, m, k.tier, k.series, k.window, cell, want)
		}
	}
	for _, e := range []api.Errno{api.OK, api.ErrArg, api.ErrTime, api.ErrLate, api.ErrFull, api.ErrOpen, api.ErrEmpty, api.ErrWait} {
		if seen[e] < 100 {
			t.Errorf("only %d calls were answered %d", seen[e], e)
		}
	}
}

// P2: a question changes nothing, not even the answer to itself.
func TestQuestionsChangeNothing(t *testing.T) {
	r := rand.New(rand.NewSource(1))
	c := example()
	asked, left := open(t, c, disk.New()), open(t, c, disk.New())
	for range 300 {
		series, at, n := r.Intn(4), asked.Stats().Now, 1+r.Intn(3)
		for tier := -1; tier < 2; tier++ {
			for window := range 12 {
				asked.Query(tier, series, window)
			}
		}
		asked.Jobs()
		asked.Stats()
		ingest(t, asked, series, at, 5, left.Ingest(series, at, 5))
		tick(t, asked, n, left.Tick(n))
		stats(t, asked, left.Stats())
	}
}
