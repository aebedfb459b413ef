// Package journal: what is laid down on a disk, line by line, so that a crash leaves all that was made safe.
package journal

import (
	"iter"
	"strings"

	"mill/disk"
)

const (
	// openings has one byte for each mill that was opened: a crash can only cut off the byte of an opening that was not answered yet, so there is nothing to be read wrongly.
	openings = "openings"
	// records has one line for each record. Only the last can be torn by a crash, and then it has no end.
	records = "records"
	// draft is a journal that is to take the place of records.
	draft = "records.new"
)

// slack is how much longer than need be a journal may always become.
const slack = 4096

// Begin lays down that a mill is opened, and tells its epoch, if the disk refused no step.
func Begin(d *disk.Disk) (int, bool) {
	if !d.Append(openings, "+") || !d.Sync(openings) {
		return 0, false
	}
	return len(d.Read(openings)), true
}

// Records goes through the records that are whole.
func Records(d *disk.Disk) iter.Seq[string] {
	text := d.Read(records)
	return strings.Lines(text[:strings.LastIndexByte(text, '\n')+1])
}

// Journal takes records for a disk. It must be made anew ahead of the first: a torn line may stand where that would go.
type Journal struct {
	disk  *disk.Disk
	start int // how long it was when it was made anew
}

// New makes a journal of what is on a disk.
func New(d *disk.Disk) *Journal { return &Journal{disk: d} }

// Renew puts one record in the place of all that are there. They are there up to the last step, so nothing is lost if the disk refuses one.
func (j *Journal) Renew(record string) bool {
	// What was begun and not ended would stand ahead of what is appended now.
	if j.disk.Has(draft) && !j.disk.Remove(draft) {
		return false
	}
	line := record + "\n"
	j.start = len(line)
	return j.disk.Append(draft, line) && j.disk.Sync(draft) && j.disk.Rename(draft, records)
}

// Lay makes a record safe, and tells whether it is.
func (j *Journal) Lay(record string) bool {
	return j.disk.Append(records, record+"\n") && j.disk.Sync(records)
}

// Long tells whether it is time to make the journal anew: it has become twice as long as it began, so that this costs little for each record, however many there are.
func (j *Journal) Long() bool { return len(j.disk.Read(records)) > 2*j.start+slack }
