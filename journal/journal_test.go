package journal

import (
	"testing"

	"mill/disk"
)

// P3: wherever the disk stops, and whatever is left of it, an epoch is above all that were told ahead of it.
func TestEpochsRise(t *testing.T) {
	for stop := -1; stop < 8; stop++ {
		for keep := range 3 {
			d := disk.New()
			last := 0
			for range 4 {
				d.Stop(stop)
				for range 3 {
					epoch, ok := Begin(d)
					if !ok && epoch != 0 {
						t.Fatalf("Begin = %d, false (stop %d, keep %d)", epoch, stop, keep)
					}
					if ok && epoch <= last {
						t.Fatalf("P3: epoch %d behind %d (stop %d, keep %d)", epoch, last, stop, keep)
					}
					last = max(last, epoch)
				}
				d = d.Crash(keep)
			}
		}
	}
}

func TestRefused(t *testing.T) {
	for stop := range 2 {
		d := disk.New()
		d.Stop(stop)
		if epoch, ok := Begin(d); epoch != 0 || ok {
			t.Errorf("Begin with %d steps left = %d, %v, want 0, false", stop, epoch, ok)
		}
	}
}
