package record

import (
	"math"
	"reflect"
	"strings"
	"testing"

	"mill/api"
	"mill/layout"
	"mill/segment"
)

func tiers(n int) layout.Layout {
	return layout.New(api.Config{Slots: 1, Lease: 1, Width: 1, Quota: 9, Tiers: []api.Tier{{From: -1, Width: 1}, {From: 0, Width: 2}, {From: 1, Width: 2}, {From: -1, Width: 3}}[:n]})
}

func key(tier, series, window int) segment.Key {
	return segment.Key{Tier: tier, Series: series, Window: window}
}

// P11: what was written is read as it was, at all bounds.
func TestRoundTrip(t *testing.T) {
	least := api.Cell{Count: 1, Sum: math.MinInt64, Min: math.MinInt32, Max: math.MinInt32}
	most := api.Cell{Count: math.MaxInt32, Sum: math.MaxInt64, Min: math.MaxInt32, Max: math.MaxInt32}
	for _, r := range []Record{
		{},
		{Now: api.MaxNow},
		{Now: 7, Segments: []segment.Segment{{Key: key(-1, 0, 0), State: segment.Held, Cell: least}}},
		{Segments: []segment.Segment{{Key: key(3, 3, api.MaxNow), State: segment.Published, Cell: most}}},
		{Now: 12, Segments: []segment.Segment{
			{Key: key(-1, 2, 5), State: segment.Reclaimed},
			{Key: key(0, 2, 5), State: segment.Waiting},
			{Key: key(1, 2, 5), State: segment.Published, Cell: api.Cell{Count: 2, Sum: 4, Min: -3, Max: 7}},
			{Key: key(2, 2, 5), State: segment.Reclaimed},
			{Key: key(-1, 1, 5), State: segment.Held, Cell: api.Cell{Count: 1}},
		}},
	} {
		text := Write(r)
		if strings.Contains(text, "\n") {
			t.Errorf("Write(%+v) = %q is more than a line", r, text)
		}
		for _, line := range []string{text, text + "\n"} {
			if got, ok := Read(line, tiers(4)); !ok || !reflect.DeepEqual(got, r) {
				t.Errorf("Read(%q) = %+v, %v, want %+v", line, got, ok, r)
			}
		}
	}
}

// P1: what somebody else wrote is told from what a mill of this layout may have written.
func TestWrong(t *testing.T) {
	for _, text := range []string{
		"", "\n", "x", "-1", "100001", "1.5", "99999999999999999999", "+",
		"7 0", "7 0 0", "7 0 0 0", "7 x 0 0 2", "7 0 0 0 2 1",
		"7 -2 0 0 4", "7 2 0 0 2", "7 0 -1 0 2", "7 0 4 0 2", "7 0 0 -1 2", "7 0 0 100001 2",
		"7 0 0 0 0", "7 0 0 0 5", "7 0 0 0 -1",
		"7 -1 0 0 2", "7 -1 0 0 3 1 1 1 1", "7 0 0 0 1 1 1 1 1",
		"7 -1 0 0 1", "7 -1 0 0 1 1 1 1", "7 -1 0 0 1 0 1 1 1", "7 -1 0 0 1 -1 1 1 1", "7 -1 0 0 1 2147483648 1 1 1",
		"7 -1 0 0 1 1 9223372036854775808 1 1", "7 -1 0 0 1 1 1 -2147483649 1", "7 -1 0 0 1 1 1 1 2147483648",
		"7 -1 0 0 1 1 1 1 1 x",
	} {
		if got, ok := Read(text, tiers(2)); ok || !reflect.DeepEqual(got, Record{}) {
			t.Errorf("Read(%q) = %+v, %v, want nothing, false", text, got, ok)
		}
	}
	for _, text := range []string{"7 1 0 0 2", "7 -1 3 0 1 1 1 1 1 1 3 0 4"} {
		if _, ok := Read(text, tiers(2)); !ok {
			t.Errorf("Read(%q) with two tiers is wrong", text)
		}
		if _, ok := Read(text, tiers(1)); ok {
			t.Errorf("Read(%q) with one tier is not wrong", text)
		}
	}
}
