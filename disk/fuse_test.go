package disk_test

import (
	"math"
	"testing"

	"satchel/api"
)

func TestFuseIsANumber(t *testing.T) {
	d := diskOf(t, safe("a", 1))
	for _, n := range []int{math.MinInt, -1 << 32, 1 - 1<<32, -1 << 31, -256, -2, -1} {
		wantErr(t, "Fuse", d.Fuse(n), api.ErrArg)
	}
	for range 5 {
		wantErr(t, "a step of a disk without a fuse", d.Sync("a"), api.OK)
	}
	wantErr(t, "Fuse", d.Fuse(1), api.OK)
	wantErr(t, "Fuse", d.Fuse(-1), api.ErrArg)
	wantErr(t, "the first step", d.Sync("a"), api.OK)
	wantErr(t, "Fuse", d.Fuse(-1), api.ErrArg)
	wantErr(t, "the second step", d.Sync("a"), api.ErrBroken)
	for _, n := range []int{1000, 1<<31 - 1, 1 << 31, 1 << 32, math.MaxInt} {
		d := diskOf(t, safe("a", 1))
		wantErr(t, "Fuse", d.Fuse(n), api.OK)
		for range 999 {
			wantErr(t, "a step", d.Sync("a"), api.OK)
		}
		wantFiles(t, "up", d, safe("a", 1))
	}
}

// A disk goes out at the step that finds its fuse at 0, of whatever kind it is; that step is not done, nor counted.
func TestFuseAtEachKindOfStep(t *testing.T) {
	for _, s := range steps() {
		for ahead := range 4 {
			d := diskOf(t, safe("a", 1, 2), has{"b", []byte{3, 4}, 1})
			done := d.Steps() + ahead
			wantErr(t, "Fuse", d.Fuse(ahead), api.OK)
			for range ahead {
				wantErr(t, "Sync", d.Sync("a"), api.OK)
			}
			wantFiles(t, s.what, d, safe("a", 1, 2), has{"b", []byte{3, 4}, 1})
			for range 3 {
				wantErr(t, s.what, s.do(d), api.ErrBroken)
				wantSteps(t, d, done)
				if d.Up() {
					t.Errorf("%s: it is up", s.what)
				}
			}
			wantErr(t, "Crash", d.Crash([]int{9, 1}), api.OK)
			wantFiles(t, s.what, d, safe("a", 1, 2), safe("b", 3, 4))
		}
	}
}

// A fuse is one less behind each kind of step; behind the last one the disk is up yet.
func TestEachKindOfStepTakesOneOfTheFuse(t *testing.T) {
	for _, s := range steps() {
		d := diskOf(t, safe("a", 1, 2), safe("b", 3))
		done := d.Steps()
		wantErr(t, "Fuse", d.Fuse(2), api.OK)
		wantErr(t, s.what, s.do(d), api.OK)
		wantErr(t, "Sync", d.Sync("b"), api.OK)
		wantSteps(t, d, done+2)
		if !d.Up() {
			t.Errorf("%s: it is out", s.what)
		}
		wantErr(t, "Sync", d.Sync("b"), api.ErrBroken)
		wantSteps(t, d, done+2)
	}
}

// What is refused ahead of the fuse does not find it, at 0 neither, and takes nothing of it.
func TestRefusedAheadOfTheFuse(t *testing.T) {
	for what, do := range refusals() {
		for fuse := range 3 {
			d := diskOf(t, safe("a", 1, 2), has{"b", []byte{3, 4}, 1})
			done := d.Steps()
			d.Fuse(fuse)
			for range 4 {
				got, want := do(d)
				wantErr(t, what, got, want)
				wantFiles(t, what, d, safe("a", 1, 2), has{"b", []byte{3, 4}, 1})
			}
			wantSteps(t, d, done)
			for range fuse {
				wantErr(t, what, d.Sync("a"), api.OK)
			}
			wantErr(t, what, d.Sync("a"), api.ErrBroken)
		}
	}
}

// A disk that is out refuses all steps, and Read, ahead of all that else would be wrong with them.
func TestRefusedByOneThatIsOut(t *testing.T) {
	d := diskOf(t, safe("a", 1, 2), has{"b", []byte{3, 4}, 1})
	done := d.Steps()
	d.Fuse(0)
	wantErr(t, "Sync", d.Sync("a"), api.ErrBroken)
	for _, fuse := range []int{-1, 0, 1, 9} {
		d.Fuse(fuse)
		for what, do := range refusals() {
			got, _ := do(d)
			wantErr(t, what, got, api.ErrBroken)
		}
		for _, s := range steps() {
			wantErr(t, s.what, s.do(d), api.ErrBroken)
		}
		for _, name := range []string{"a", "b", "x", ""} {
			wantNoRead(t, d, name, api.ErrBroken)
		}
		if d.Up() || d.Loose("b") != 1 || d.Used() != 4 {
			t.Error(d.Up(), d.Loose("b"), d.Used())
		}
	}
	wantSteps(t, d, done)
	wantErr(t, "Crash", d.Crash(nil), api.OK)
	wantFiles(t, "up again", d, safe("a", 1, 2), safe("b", 3))
}

// The last fuse that was given counts, and a crash takes it away, be the disk out or not.
func TestFuseAnew(t *testing.T) {
	d := diskOf(t, safe("a", 1))
	d.Fuse(0)
	wantErr(t, "Fuse", d.Fuse(2), api.OK)
	wantErr(t, "Sync", d.Sync("a"), api.OK)
	wantErr(t, "Fuse", d.Fuse(2), api.OK)
	wantErr(t, "Sync", d.Sync("a"), api.OK)
	wantErr(t, "Sync", d.Sync("a"), api.OK)
	wantErr(t, "Sync", d.Sync("a"), api.ErrBroken)
	for _, fuse := range []int{0, 1, 5} {
		wantErr(t, "Fuse of one that is out", d.Fuse(fuse), api.OK)
		wantErr(t, "Sync", d.Sync("a"), api.ErrBroken)
	}
	wantErr(t, "Crash", d.Crash(nil), api.OK)
	for range 9 {
		wantErr(t, "Sync", d.Sync("a"), api.OK)
	}
	wantErr(t, "Fuse", d.Fuse(0), api.OK)
	wantErr(t, "Crash of one that is up", d.Crash(nil), api.OK)
	for range 9 {
		wantErr(t, "Sync", d.Sync("a"), api.OK)
	}
}

// A fuse of 0 lets no disk go out by itself.
func TestFuseOfNoughtAlone(t *testing.T) {
	d := diskOf(t, has{"a", []byte{1, 2}, 1})
	wantErr(t, "Fuse", d.Fuse(0), api.OK)
	wantErr(t, "Resize", d.Resize(5), api.OK)
	wantErr(t, "Flip", d.Flip("a", 1), api.OK)
	wantFiles(t, "up", d, has{"a", []byte{3, 2}, 1})
	wantErr(t, "Append", d.Append("a", []byte{3}), api.ErrBroken)
	if d.Up() {
		t.Error("it is up")
	}
}
