package job

import (
	"math"
	"testing"

	"mill/api"
	"mill/layout"
	"mill/segment"
)

// board is of a layout whose windows are one, two and four wide.
func board() *Board {
	return New(layout.New(api.Config{Slots: 4, Lease: 5, Width: 1, Keep: 3, Quota: 100, Tiers: []api.Tier{{From: -1, Width: 2, Keep: 8}, {From: 0, Width: 4}}}), 7)
}

func roll(tier, series, window int) Job {
	return Roll{Of: segment.Key{Tier: tier, Series: series, Window: window}}
}

func reclaim(tier, series, window int) Job {
	return Reclaim{Of: segment.Key{Tier: tier, Series: series, Window: window}}
}

// pick wants a certain job to be picked.
func pick(t *testing.T, b *Board, slot, now int, tight bool, want Job) api.Token {
	t.Helper()
	next, ok := b.Next(now, tight)
	if !ok || next != want {
		t.Fatalf("P7: Next at %d = %T %+v, %v, want %T %+v", now, next, next, ok, want, want)
	}
	got := b.Lease(next, slot, now)
	if got.Kind != want.Kind() || (segment.Key{Tier: got.Tier, Series: got.Series, Window: got.Window}) != want.Segment() {
		t.Fatalf("P7: Lease at %d = %+v, want %T %+v", now, got, want, want)
	}
	if got.Slot != slot || got.Until != now+5 || got.Token.Epoch != 7 {
		t.Fatalf("P7: Lease at %d = %+v, want slot %d, until %d, epoch 7", now, got, slot, now+5)
	}
	return got.Token
}

func none(t *testing.T, b *Board, now int) {
	t.Helper()
	if got, ok := b.Next(now, false); ok || got != nil {
		t.Fatalf("P7: Next at %d = %+v, %v, want none", now, got, ok)
	}
}

func list(t *testing.T, b *Board, want ...api.Job) {
	t.Helper()
	got := b.List()
	if len(got) != len(want) {
		t.Fatalf("P9: List = %+v, want %+v", got, want)
	}
	for i := range got {
		if got[i] != want[i] {
			t.Fatalf("P9: List[%d] = %+v, want %+v", i, got[i], want[i])
		}
	}
}

func TestDue(t *testing.T) {
	l := board().layout
	for _, d := range []struct {
		job  Job
		want int
	}{{roll(0, 0, 3), 8}, {reclaim(0, 0, 3), 16}, {roll(1, 2, 1), 8}, {reclaim(1, 2, 1), 8}, {reclaim(-1, 0, 6), 10}} {
		if n := d.job.Due(l); n != d.want {
			t.Errorf("Due of %T %+v = %d, want %d", d.job, d.job, n, d.want)
		}
	}
}

// ahead wants one job to be picked ahead of another, in whichever order they came.
func ahead(t *testing.T, tight bool, first Job, since int, other Job, otherSince int) {
	t.Helper()
	b := board()
	b.Post(first, since)
	b.Post(other, otherSince)
	pick(t, b, 0, 20, tight, first)
	pick(t, b, 1, 20, tight, other)
	b = board()
	b.Post(other, otherSince)
	b.Post(first, since)
	pick(t, b, 0, 20, tight, first)
}

// P7: the least pressure goes first; waiting makes it less, by whole quarters.
func TestPressure(t *testing.T) {
	ahead(t, false, roll(0, 3, 0), 20, roll(0, 0, 1), 20)       // 2, 4
	ahead(t, false, reclaim(-1, 0, 3), 20, roll(1, 0, 1), 20)   // 7, 8
	ahead(t, false, roll(1, 0, 1), 20, reclaim(-1, 0, 5), 20)   // 8, 9
	ahead(t, false, roll(0, 0, 1), 20, roll(0, 1, 2), 13)       // 4, 6 less 1
	ahead(t, false, roll(0, 0, 1), 20, roll(0, 1, 2), 9)        // 4, 6 less 2 (of 11)
	ahead(t, false, roll(0, 1, 2), 8, roll(0, 0, 1), 20)        // 6 less 3, 4
	ahead(t, false, reclaim(1, 3, 1), 4, reclaim(-1, 0, 1), 20) // 8 less 4, 5
	ahead(t, false, roll(0, 0, 0), 0, roll(1, 0, 0), 0)         // 2 less 5, 4 less 5
}

// P7: where the pressure is the same: by kind, tier, series, window.
func TestSamePressure(t *testing.T) {
	ahead(t, false, roll(1, 3, 1), 20, reclaim(-1, 0, 4), 20) // 8
	ahead(t, false, roll(0, 3, 3), 20, roll(1, 0, 1), 20)     // 8
	ahead(t, false, reclaim(-1, 3, 4), 20, reclaim(1, 0, 1), 20)
	ahead(t, false, roll(0, 0, 2), 12, roll(0, 1, 1), 20) // 4
	ahead(t, false, roll(0, 0, 1), 20, roll(0, 0, 2), 12)
}

// P7: if it is tight, a Reclaim goes ahead of a Roll, whatever their pressure; among those of a kind nothing is changed.
func TestTight(t *testing.T) {
	ahead(t, true, reclaim(0, 3, 9), 20, roll(0, 0, 0), 0)
	ahead(t, true, reclaim(-1, 3, 4), 20, roll(1, 0, 1), 20)
	ahead(t, true, reclaim(1, 3, 0), 20, reclaim(-1, 0, 4), 20)
	ahead(t, true, roll(1, 3, 0), 20, roll(0, 0, 2), 20)
	ahead(t, true, roll(0, 0, 1), 20, roll(0, 1, 1), 20)
	ahead(t, true, reclaim(-1, 0, 4), 20, reclaim(-1, 1, 4), 20)
}

// P9: by kind, then tier, series, window, however pressing they are and in whichever order they came.
func TestList(t *testing.T) {
	b := board()
	list(t, b)
	for _, j := range []Job{reclaim(-1, 0, 1), roll(1, 0, 0), roll(0, 1, 0), reclaim(0, 0, 0), roll(0, 0, 4), reclaim(-1, 0, 0), roll(0, 0, 3)} {
		b.Post(j, 9)
	}
	want := []api.Job{
		{Kind: 1, Tier: 0, Series: 0, Window: 3}, {Kind: 1, Tier: 0, Series: 0, Window: 4}, {Kind: 1, Tier: 0, Series: 1}, {Kind: 1, Tier: 1},
		{Kind: 2, Tier: -1, Window: 0}, {Kind: 2, Tier: -1, Window: 1}, {Kind: 2, Tier: 0},
	}
	for i := range want {
		want[i].Since, want[i].Slot = 9, -1
	}
	list(t, b, want...)
	b.Post(roll(0, 1, 0), 12)
	list(t, b, want...)
	k := pick(t, b, 3, 12, false, roll(0, 1, 0))
	want[2].Token, want[2].Slot, want[2].Until = api.Token{Epoch: 7, Number: 1}, 3, 17
	list(t, b, want...)
	b.Post(roll(0, 1, 0), 13)
	list(t, b, want...)
	b.Done(k)
	list(t, b, append(want[:2:2], want[3:]...)...)
}

// P7, P8: a job that is leased is not picked again; one that is done is gone, and its token is worth nothing.
func TestLeases(t *testing.T) {
	b := board()
	none(t, b, 20)
	b.Post(roll(0, 0, 0), 20)
	b.Post(roll(0, 0, 1), 20)
	first := pick(t, b, 2, 20, false, roll(0, 0, 0))
	if !b.Busy(2) || b.Busy(0) || b.Busy(1) || b.Busy(3) || b.Busy(-1) {
		t.Error("P7: slot 2 alone is busy")
	}
	second := pick(t, b, 0, 20, false, roll(0, 0, 1))
	if first != (api.Token{Epoch: 7, Number: 1}) || second != (api.Token{Epoch: 7, Number: 2}) {
		t.Errorf("P7: tokens %+v, %+v", first, second)
	}
	none(t, b, 20)
	if j, ok := b.Leased(second); !ok || j != roll(0, 0, 1) {
		t.Errorf("P8: Leased(%+v) = %+v, %v", second, j, ok)
	}
	b.Done(second)
	for _, k := range []api.Token{second, {}, {Epoch: 7}, {Number: 1}, {Epoch: 6, Number: 1}, {Epoch: 7, Number: 3}, {Epoch: math.MaxInt, Number: math.MinInt}} {
		if j, ok := b.Leased(k); ok || j != nil {
			t.Errorf("P8: Leased(%+v) = %+v, %v", k, j, ok)
		}
	}
	if b.Busy(0) || !b.Busy(2) {
		t.Error("P7: slot 2 alone is busy")
	}
	list(t, b, api.Job{Kind: 1, Since: 20, Token: first, Slot: 2, Until: 25})
}

// P8: a failed try rests two to the power of its tries, but 32 at most, however many they are.
func TestFail(t *testing.T) {
	b := board()
	b.Post(reclaim(-1, 1, 2), 20)
	now := 20
	for tries := 1; tries <= 200; tries++ {
		k := pick(t, b, 1, now, false, reclaim(-1, 1, 2))
		b.Fail(k, now)
		long := 32
		if tries < 5 {
			long = []int{1, 2, 4, 8, 16}[tries]
		}
		list(t, b, api.Job{Kind: 2, Tier: -1, Series: 1, Window: 2, Since: 20, Tries: tries, Rest: now + long, Slot: -1})
		if _, ok := b.Leased(k); ok || b.Busy(1) {
			t.Fatal("P8: a job that failed is leased still")
		}
		none(t, b, now)
		none(t, b, now+long-1)
		now += long
	}
}

// P5: leases run out at their end, not ahead of it, each by itself.
func TestExpire(t *testing.T) {
	b := board()
	b.Post(roll(0, 0, 0), 20)
	b.Post(roll(0, 0, 1), 20)
	b.Post(roll(0, 0, 2), 20)
	b.Expire(20)
	early := pick(t, b, 0, 20, false, roll(0, 0, 0))
	same := pick(t, b, 1, 20, false, roll(0, 0, 1))
	late := pick(t, b, 2, 21, false, roll(0, 0, 2))
	b.Expire(24)
	for _, k := range []api.Token{early, same, late} {
		if _, ok := b.Leased(k); !ok {
			t.Errorf("P5: the lease %+v has run out at 24", k)
		}
	}
	b.Expire(25)
	list(t, b,
		api.Job{Kind: 1, Window: 0, Since: 20, Tries: 1, Rest: 27, Slot: -1},
		api.Job{Kind: 1, Window: 1, Since: 20, Tries: 1, Rest: 27, Slot: -1},
		api.Job{Kind: 1, Window: 2, Since: 20, Token: late, Slot: 2, Until: 26})
	b.Expire(500)
	list(t, b,
		api.Job{Kind: 1, Window: 0, Since: 20, Tries: 1, Rest: 27, Slot: -1},
		api.Job{Kind: 1, Window: 1, Since: 20, Tries: 1, Rest: 27, Slot: -1},
		api.Job{Kind: 1, Window: 2, Since: 20, Tries: 1, Rest: 502, Slot: -1})
}
