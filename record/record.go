// Package record: what a call has come to, as a line of text that can be laid down.
package record

import (
	"math"
	"strconv"
	"strings"

	"mill/api"
	"mill/layout"
	"mill/segment"
)

// Record is the time, and the segments that are other than they were. It tells how they are, not what befell them, so that one record may tell of a single call or of all calls that ever were.
type Record struct {
	Now      int
	Segments []segment.Segment
}

// Write makes a record's text: numbers with blanks between them.
func Write(r Record) string {
	out := strconv.AppendInt(nil, int64(r.Now), 10)
	for _, g := range r.Segments {
		out = appendNumbers(out, int64(g.Key.Tier), int64(g.Key.Series), int64(g.Key.Window), int64(g.State))
		if g.State.HasCell() {
			out = appendNumbers(out, int64(g.Cell.Count), g.Cell.Sum, int64(g.Cell.Min), int64(g.Cell.Max))
		}
	}
	return string(out)
}

func appendNumbers(out []byte, list ...int64) []byte {
	for _, n := range list {
		out = strconv.AppendInt(append(out, ' '), n, 10)
	}
	return out
}

// Read makes a record of its text, and tells whether it is one that a mill of this layout may have laid down.
func Read(text string, l layout.Layout) (Record, bool) {
	in := reader{left: strings.Fields(text)}
	out := Record{Now: int(in.number(0, api.MaxNow))}
	for len(in.left) > 0 {
		out.Segments = append(out.Segments, in.segment(l))
	}
	if in.wrong {
		return Record{}, false
	}
	return out, true
}

// reader goes through numbers; once something was wrong it stays so.
type reader struct {
	left  []string
	wrong bool
}

func (r *reader) segment(l layout.Layout) segment.Segment {
	var g segment.Segment
	g.Key.Tier = int(r.number(layout.Raw, int64(l.Tiers()-1)))
	g.Key.Series = int(r.number(0, api.MaxSeries-1))
	g.Key.Window = int(r.number(0, api.MaxNow))
	g.State = segment.State(r.number(int64(segment.Held), int64(segment.Reclaimed)))
	if g.State.HasCell() {
		g.Cell.Count = int(r.number(1, math.MaxInt32))
		g.Cell.Sum = r.number(math.MinInt64, math.MaxInt64)
		g.Cell.Min = int32(r.number(math.MinInt32, math.MaxInt32))
		g.Cell.Max = int32(r.number(math.MinInt32, math.MaxInt32))
	}
	// Numbers that are held have no cell to be made, and a cell is not held: a job of either would find nothing below it.
	if g.State != segment.Reclaimed && (g.State == segment.Held) != (g.Key.Tier == layout.Raw) {
		r.wrong = true
	}
	return g
}

// number tells the next number, which is to be within bounds.
func (r *reader) number(least, most int64) int64 {
	if len(r.left) == 0 {
		r.wrong = true
		return 0
	}
	n, err := strconv.ParseInt(r.left[0], 10, 64)
	r.left = r.left[1:]
	if err != nil || n < least || n > most {
		r.wrong = true
	}
	return n
}
