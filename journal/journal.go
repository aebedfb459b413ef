// Package journal: what a mill lays down on its disk.
package journal

import "mill/disk"

// openings is a file with one byte for each mill that was opened: a crash can only cut off the byte of an opening that was not answered yet, so there is nothing to be read wrongly.
const openings = "openings"

// Begin lays down that a mill is opened, and tells its epoch, if the disk refused no step.
func Begin(d *disk.Disk) (int, bool) {
	if !d.Append(openings, "+") || !d.Sync(openings) {
		return 0, false
	}
	return len(d.Read(openings)), true
}
