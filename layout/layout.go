// Package layout: which configurations are right, and how tiers cut the time into windows.
package layout

import (
	"slices"

	"mill/api"
)

// Raw is the tier of the raw numbers.
const Raw = -1

// Right tells whether a configuration is right.
func Right(c api.Config) bool {
	return within(c.Slots, 1, api.MaxSlots) &&
		within(c.Lease, 1, api.MaxLease) &&
		within(c.Lag, 0, api.MaxLag) &&
		within(c.Width, 1, api.MaxRaw) &&
		within(c.Keep, 0, api.MaxKeep) &&
		within(c.Quota, 1, api.MaxQuota) &&
		within(len(c.Tiers), 1, api.MaxTiers) &&
		tiersWithinBounds(c.Tiers) &&
		tiersFit(c)
}

func within(n, least, most int) bool { return least <= n && n <= most }

func tiersWithinBounds(tiers []api.Tier) bool {
	for _, t := range tiers {
		if !within(t.From, Raw, len(tiers)-1) || !within(t.Width, 1, api.MaxWidth) || !within(t.Keep, 0, api.MaxKeep) {
			return false
		}
	}
	return true
}

// tiersFit is asked of tiers within bounds only: it divides by widths and goes where From says.
func tiersFit(c api.Config) bool {
	for number, t := range c.Tiers {
		if t.Width%width(c, t.From) != 0 || !comesToRaw(c.Tiers, number) {
			return false
		}
	}
	return true
}

// comesToRaw takes as many steps as there are tiers at most: whoever needs more goes round.
func comesToRaw(tiers []api.Tier, number int) bool {
	for range tiers {
		number = tiers[number].From
		if number == Raw {
			return true
		}
	}
	return false
}

func width(c api.Config, tier int) int {
	if tier == Raw {
		return c.Width
	}
	return c.Tiers[tier].Width
}

// Layout is a right configuration that nobody else can write into.
type Layout struct {
	config api.Config
}

// New makes a layout of a configuration that is right.
func New(c api.Config) Layout {
	c.Tiers = slices.Clone(c.Tiers)
	return Layout{config: c}
}

// Lag tells how long a window waits for late numbers.
func (l Layout) Lag() int { return l.config.Lag }

// Quota tells how much may be used.
func (l Layout) Quota() int { return l.config.Quota }

// Tiers tells how many tiers there are, without the raw numbers.
func (l Layout) Tiers() int { return len(l.config.Tiers) }

// Has tells whether there is such a tier; the raw numbers are one.
func (l Layout) Has(tier int) bool { return within(tier, Raw, l.Tiers()-1) }

// Window tells in which window of a tier a time is.
func (l Layout) Window(tier, at int) int { return at / width(l.config, tier) }

// End tells the first time behind a window.
func (l Layout) End(tier, window int) int { return (window + 1) * width(l.config, tier) }

// Below tells of which tier a tier is made, and which windows of that, from the first up to and without the second, are in a window of it.
func (l Layout) Below(tier, window int) (from, first, end int) {
	from = l.config.Tiers[tier].From
	many := width(l.config, tier) / width(l.config, from)
	return from, window * many, (window + 1) * many
}
