package roll_test

import (
	"slices"
	"testing"

	"satchel/api"
	"satchel/roll"
)

// wantRoller holds what a roller tells against the window that it should have.
func wantRoller(t *testing.T, r *roll.Roller, window []byte) {
	t.Helper()
	if got, want := r.Sum(), told(window); got != want {
		t.Errorf("%v: Sum: %d; want %d", window, got, want)
	}
	if got, want := r.Full(), len(window) == api.Window; got != want {
		t.Errorf("%v: Full: %v; want %v", window, got, want)
	}
}

// wantPush pushes a byte and holds what is told against the window that it should make.
func wantPush(t *testing.T, r *roll.Roller, c byte, window []byte) {
	t.Helper()
	if got, want := r.Push(c), told(window); got != want {
		t.Errorf("%v: Push: %d; want %d", window, got, want)
	}
	wantRoller(t, r, window)
}

// lastOf tells the window behind so many of the bytes.
func lastOf(b []byte, came int) []byte { return b[max(0, came-api.Window):came] }

// wantEachPush pushes bytes into a new roller.
func wantEachPush(t *testing.T, b []byte) {
	t.Helper()
	r := roll.New()
	wantRoller(t, r, nil)
	for i, c := range b {
		wantPush(t, r, c, lastOf(b, i+1))
	}
}

// pushed tells a new roller into which these bytes came.
func pushed(b []byte) *roll.Roller {
	r := roll.New()
	for _, c := range b {
		r.Push(c)
	}
	return r
}

func TestExamplesOfRollers(t *testing.T) {
	r := roll.New()
	if got := r.Push(0); got != 2654435761 {
		t.Error(got)
	}
	if got := r.Push(0); got != 2027808452 {
		t.Error(got)
	}
	if r.Full() {
		t.Error("full of two")
	}
	for range 14 {
		r.Push(0)
	}
	if !r.Full() {
		t.Error("not full of sixteen")
	}
}

func TestNewRollerIsEmpty(t *testing.T) {
	r := roll.New()
	if r == nil {
		t.Fatal("none")
	}
	wantRoller(t, r, nil)
	wantRoller(t, r, nil)
}

func TestOnePush(t *testing.T) {
	for c := range 256 {
		wantPush(t, roll.New(), byte(c), []byte{byte(c)})
	}
}

func TestPushesAboutAWindow(t *testing.T) {
	b := someBytes(17)
	for _, came := range []int{15, 16, 17} {
		r := pushed(b[:came])
		wantRoller(t, r, lastOf(b, came))
		if r.Full() != (came >= 16) {
			t.Error(came)
		}
	}
}

func TestEachPushOfManyBytes(t *testing.T) {
	wantEachPush(t, someBytes(500))
	wantEachPush(t, make([]byte, 100))
	wantEachPush(t, slices.Repeat([]byte{255}, 100))
	wantEachPush(t, slices.Concat(make([]byte, 20), slices.Repeat([]byte{255}, 20), make([]byte, 20)))
}

// Of all that came the last sixteen count, and nothing ahead of them.
func TestWhatCameAheadIsForgotten(t *testing.T) {
	last := someBytes(api.Window)
	for ahead := range 70 {
		r := pushed(slices.Concat(someBytes(ahead), last))
		if got, want := r.Sum(), roll.Sum(last); got != want {
			t.Errorf("%d bytes ahead: %d; want %d", ahead, got, want)
		}
		if !r.Full() {
			t.Errorf("%d bytes ahead: not full", ahead)
		}
	}
}

// To roll from window to window, by Roll and by a roller, comes to the same as to sum each anew.
func TestRollingIsSummingAnew(t *testing.T) {
	b := someBytes(70000)
	r := pushed(b[:api.Window])
	sum := r.Sum()
	for i := api.Window; i < len(b); i++ {
		sum = roll.Roll(sum, b[i-api.Window], b[i])
		anew := roll.Sum(lastOf(b, i+1))
		if got := r.Push(b[i]); got != anew || sum != anew || !r.Full() {
			t.Fatalf("at %d: Push %d, Roll %d; want %d", i, got, sum, anew)
		}
	}
}

func TestRollersAreTheirOwn(t *testing.T) {
	x, y := roll.New(), roll.New()
	a, b := someBytes(60), someBytes(61)
	for i := range a {
		wantPush(t, x, a[i], lastOf(a, i+1))
		if i%3 == 0 {
			wantPush(t, y, b[i/3], lastOf(b, i/3+1))
		}
		wantRoller(t, x, lastOf(a, i+1))
	}
	wantRoller(t, roll.New(), nil)
}

// Asking changes nothing, nor does a call beside the roller.
func TestAskingChangesNothing(t *testing.T) {
	b := someBytes(50)
	r := roll.New()
	for i, c := range b {
		for range i % 4 {
			wantRoller(t, r, lastOf(b, i))
			roll.Sum(b[:i])
			roll.Roll(r.Sum(), c, c)
		}
		wantPush(t, r, c, lastOf(b, i+1))
	}
}

// wantNothing says that nothing comes into a roller that is none.
func wantNothing(t *testing.T, what string, r *roll.Roller) {
	t.Helper()
	for c := range 40 {
		if got := r.Push(byte(c)); got != 0 {
			t.Errorf("%s: Push(%d): %d", what, c, got)
		}
		if r.Sum() != 0 || r.Full() {
			t.Errorf("%s: behind %d: %d, %v", what, c, r.Sum(), r.Full())
		}
	}
}

func TestRollersThatAreNone(t *testing.T) {
	wantNothing(t, "nil", nil)
	wantNothing(t, "not made", new(roll.Roller))
	wantNothing(t, "a literal", &roll.Roller{})
	var in struct {
		ahead byte
		roll.Roller
	}
	wantNothing(t, "within another", &in.Roller)
	none := new(roll.Roller)
	none.Push(1)
	if *none != (roll.Roller{}) {
		t.Error("something came into one that New did not make")
	}
}

// A copy by value has a window of its own, and rolls on from where the roller was.
func TestACopyRollsOnByItself(t *testing.T) {
	b := someBytes(60)
	for _, came := range []int{0, 1, 15, 16, 17, 30} {
		r := pushed(b[:came])
		other := struct{ roll.Roller }{*r}
		for i := came; i < len(b); i++ {
			wantPush(t, &other.Roller, b[i], lastOf(b, i+1))
			wantRoller(t, r, lastOf(b, came))
		}
		wantPush(t, r, b[came], lastOf(b, came+1))
		wantRoller(t, &other.Roller, lastOf(b, len(b)))
	}
}
