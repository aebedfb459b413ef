// Package layout: which configurations are right, and how tiers cut the time into windows.
package layout

import (
	"iter"
	"slices"

	"mill/api"
)

// Raw is the tier of the raw numbers.
const Raw = -1

// Right tells whether a configuration is right.
func Right(c api.Config) bool {
	return within(c.Slots, 1, api.MaxSlots) &&
		within(c.Lease, 1, api.MaxLease) &&
		within(c.Lag, 0, api.MaxLag) &&
		within(c.Width, 1, api.MaxRaw) &&
		within(c.Keep, 0, api.MaxKeep) &&
		within(c.Quota, 1, api.MaxQuota) &&
		within(len(c.Tiers), 1, api.MaxTiers) &&
		tiersWithinBounds(c.Tiers) &&
		tiersFit(c)
}

func within(n, least, most int) bool { return least <= n && n <= most }

func tiersWithinBounds(tiers []api.Tier) bool {
	for _, t := range tiers {
		if !within(t.From, Raw, len(tiers)-1) || !within(t.Width, 1, api.MaxWidth) || !within(t.Keep, 0, api.MaxKeep) {
			return false
		}
	}
	return true
}

// tiersFit is asked of tiers within bounds only: it divides by widths and goes where From says.
func tiersFit(c api.Config) bool {
	for number, t := range c.Tiers {
		if t.Width%width(c, t.From) != 0 || !comesToRaw(c.Tiers, number) {
			return false
		}
	}
	return true
}

// comesToRaw takes as many steps as there are tiers at most: whoever needs more goes round.
func comesToRaw(tiers []api.Tier, number int) bool {
	for range tiers {
		number = tiers[number].From
		if number == Raw {
			return true
		}
	}
	return false
}

func width(c api.Config, tier int) int {
	if tier == Raw {
		return c.Width
	}
	return c.Tiers[tier].Width
}

func keep(c api.Config, tier int) int {
	if tier == Raw {
		return c.Keep
	}
	return c.Tiers[tier].Keep
}

// Layout is a right configuration that nobody else can write into.
type Layout struct {
	config api.Config
}

// New makes a layout of a configuration that is right.
func New(c api.Config) Layout {
	c.Tiers = slices.Clone(c.Tiers)
	return Layout{config: c}
}

// HasSlot tells whether there is such a slot.
func (l Layout) HasSlot(slot int) bool { return within(slot, 0, l.config.Slots-1) }

// Lease tells how long a lease is.
func (l Layout) Lease() int { return l.config.Lease }

// Lag tells how long a window waits for late numbers.
func (l Layout) Lag() int { return l.config.Lag }

// Quota tells how much may be used.
func (l Layout) Quota() int { return l.config.Quota }

// Tiers tells how many tiers there are, without the raw numbers.
func (l Layout) Tiers() int { return len(l.config.Tiers) }

// Has tells whether there is such a tier; the raw numbers are one.
func (l Layout) Has(tier int) bool { return within(tier, Raw, l.Tiers()-1) }

// Window tells in which window of a tier a time is.
func (l Layout) Window(tier, at int) int { return at / width(l.config, tier) }

// End tells the first time behind a window.
func (l Layout) End(tier, window int) int { return (window + 1) * width(l.config, tier) }

// Closed tells whether a window takes no numbers any more.
func (l Layout) Closed(tier, window, now int) bool { return l.End(tier, window) <= now-l.Lag() }

// KeptUntil tells from when on a window's segments need not be kept.
func (l Layout) KeptUntil(tier, window int) int { return l.End(tier, window) + keep(l.config, tier) }

// Below tells of which tier a tier is made, and which windows of that, from the first up to and without the second, are in a window of it.
func (l Layout) Below(tier, window int) (from, first, end int) {
	from = l.config.Tiers[tier].From
	many := width(l.config, tier) / width(l.config, from)
	return from, window * many, (window + 1) * many
}

// Above goes through the tiers that are made of a tier, with the window of each that a window of that tier is in.
func (l Layout) Above(tier, window int) iter.Seq2[int, int] {
	start := window * width(l.config, tier)
	return func(yield func(int, int) bool) {
		for number, t := range l.config.Tiers {
			if t.From == tier && !yield(number, start/t.Width) {
				return
			}
		}
	}
}
