package journal

import (
	"slices"
	"strconv"
	"strings"
	"testing"

	"mill/disk"
)

// P3: wherever the disk stops, and whatever is left of it, an epoch is above all that were told ahead of it.
func TestEpochsRise(t *testing.T) {
	for stop := -1; stop < 8; stop++ {
		for keep := range 3 {
			d := disk.New()
			last := 0
			for range 4 {
				d.Stop(stop)
				for range 3 {
					epoch, ok := Begin(d)
					if !ok && epoch != 0 {
						t.Fatalf("Begin = %d, false (stop %d, keep %d)", epoch, stop, keep)
					}
					if ok && epoch <= last {
						t.Fatalf("P3: epoch %d behind %d (stop %d, keep %d)", epoch, last, stop, keep)
					}
					last = max(last, epoch)
				}
				d = d.Crash(keep)
			}
		}
	}
}

func TestRefused(t *testing.T) {
	for stop := range 2 {
		d := disk.New()
		d.Stop(stop)
		if epoch, ok := Begin(d); epoch != 0 || ok {
			t.Errorf("Begin with %d steps left = %d, %v, want 0, false", stop, epoch, ok)
		}
	}
}

// lines wants these records to be on a disk.
func lines(t *testing.T, d *disk.Disk, want ...string) {
	t.Helper()
	if got := told(d); !slices.Equal(got, want) {
		t.Fatalf("P12: Records = %q, want %q", got, want)
	}
}

func told(d *disk.Disk) []string {
	var out []string
	for line := range Records(d) {
		out = append(out, strings.TrimSuffix(line, "\n"))
	}
	return out
}

func renew(t *testing.T, j *Journal, record string) {
	t.Helper()
	if !j.Renew(record) {
		t.Fatalf("Renew(%q) was refused", record)
	}
}

func lay(t *testing.T, j *Journal, record string) {
	t.Helper()
	if !j.Lay(record) {
		t.Fatalf("Lay(%q) was refused", record)
	}
}

// P11: what was laid down is safe, in its order, and what was there ahead of a Renew is gone.
func TestLayAndRenew(t *testing.T) {
	d := disk.New()
	lines(t, d)
	j := New(d)
	renew(t, j, "a")
	lines(t, d.Crash(0), "a")
	lay(t, j, "b b")
	lay(t, j, "c")
	lines(t, d.Crash(0), "a", "b b", "c")
	renew(t, j, "d")
	lines(t, d.Crash(0), "d")
	lay(t, j, "e")
	lines(t, d.Crash(0), "d", "e")
	again := New(d.Crash(0))
	renew(t, again, "f")
	lines(t, again.disk.Crash(0), "f")
	lines(t, d, "d", "e")
}

// P12: of a record that is not safe there is all or nothing, however many bytes of it are left; and whoever renews the journal there can go on.
func TestTorn(t *testing.T) {
	for steps := range 3 {
		for keep := range 8 {
			d := disk.New()
			j := New(d)
			renew(t, j, "first")
			d.Stop(steps)
			if ok := j.Lay("other"); ok != (steps == 2) {
				t.Fatalf("P11: Lay with %d steps left: %v", steps, ok)
			}
			left := d.Crash(keep)
			want := []string{"first"}
			if steps == 2 || steps == 1 && keep >= len("other\n") {
				want = append(want, "other")
			}
			lines(t, left, want...)
			lines(t, left.Crash(0), want...)
			on := New(left)
			renew(t, on, "whole")
			lay(t, on, "next")
			lines(t, left.Crash(0), "whole", "next")
		}
	}
}

// P10, P12: a Renew that the disk refuses changes nothing, and nothing of it is in the way of another.
func TestRenewRefused(t *testing.T) {
	for steps := range 4 {
		for keep := range 8 {
			d := disk.New()
			j := New(d)
			renew(t, j, "first")
			lay(t, j, "second")
			d.Stop(steps)
			if ok := j.Renew("third"); ok != (steps == 3) {
				t.Fatalf("Renew with %d steps left: %v", steps, ok)
			}
			left := d.Crash(keep)
			if steps == 3 {
				lines(t, left, "third")
			} else {
				lines(t, left, "first", "second")
			}
			held := told(left)
			for more := range 5 {
				next := left.Crash(0)
				next.Stop(more)
				if New(next).Renew("fourth") {
					lines(t, next.Crash(0), "fourth")
				} else {
					lines(t, next.Crash(0), held...)
				}
			}
			on := New(left)
			renew(t, on, "fifth")
			lay(t, on, "sixth")
			lines(t, left.Crash(0), "fifth", "sixth")
		}
	}
}

// A journal becomes twice as long as it began, and some, but not much more.
func TestLong(t *testing.T) {
	for _, size := range []int{1, 100, 20000} {
		d := disk.New()
		j := New(d)
		renew(t, j, strings.Repeat("x", size))
		if j.Long() {
			t.Errorf("a journal that begins with %d bytes is long at once", size)
		}
		count := 0
		for ; !j.Long() && count < 100000; count++ {
			lay(t, j, strconv.Itoa(count%10))
		}
		if length := len(d.Read(records)); length < 2*size+1000 || length > 3*size+8192 {
			t.Errorf("a journal that begins with %d bytes is long at %d", size, length)
		}
		renew(t, j, "x")
		if j.Long() {
			t.Error("a journal that was made anew is long")
		}
	}
}
