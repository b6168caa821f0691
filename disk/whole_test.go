package disk_test

import (
	"bytes"
	"fmt"
	"math/rand"
	"slices"
	"strings"
	"testing"

	"satchel/api"
	"satchel/disk"
)

// kept is a file as its telling has it: its name, all its bytes, and how many of them are safe.
type kept struct {
	name string
	b    []byte
	safe int
}

// telling is a disk as the document's words say it, told in another way: a slice of files by their rising names, and how many steps are left till it goes out.
type telling struct {
	room  int
	l     []kept
	left  []int // none, or one
	out   bool
	steps int
}

func (m *telling) find(name string) (int, bool) {
	return slices.BinarySearchFunc(m.l, name, func(f kept, s string) int { return strings.Compare(f.name, s) })
}

func (m *telling) used() int {
	n := 0
	for _, f := range m.l {
		n += len(f.b)
	}
	return n
}

// may tells whether a file may have a name.
func may(name string) bool {
	return len(name) > 0 && len(name) < 61 && strings.Trim(name, "abcdefghijklmnopqrstuvwxyz0123456789-./") == ""
}

// goes tells whether a step is done, and counts it.
func (m *telling) goes() bool {
	if len(m.left) > 0 {
		if m.left[0] == 0 {
			m.out = true
			return false
		}
		m.left[0]--
	}
	m.steps++
	return true
}

func (m *telling) append(name string, b []byte) api.Errno {
	at, is := m.find(name)
	if m.out {
		return api.ErrBroken
	}
	if !may(name) {
		return api.ErrArg
	}
	if !is && len(m.l) == 1000 || m.used()+len(b) > m.room {
		return api.ErrFull
	}
	if !m.goes() {
		return api.ErrBroken
	}
	if !is {
		m.l = slices.Insert(m.l, at, kept{name: name})
	}
	m.l[at].b = append(bytes.Clone(m.l[at].b), b...)
	return api.OK
}

func (m *telling) sync(name string) api.Errno {
	at, is := m.find(name)
	if m.out {
		return api.ErrBroken
	}
	if !is {
		return api.ErrMissing
	}
	if !m.goes() {
		return api.ErrBroken
	}
	m.l[at].safe = len(m.l[at].b)
	return api.OK
}

func (m *telling) rename(from, to string) api.Errno {
	at, is := m.find(from)
	if m.out {
		return api.ErrBroken
	}
	if !may(to) {
		return api.ErrArg
	}
	if !is {
		return api.ErrMissing
	}
	if m.l[at].safe < len(m.l[at].b) {
		return api.ErrState
	}
	if !m.goes() {
		return api.ErrBroken
	}
	f := m.l[at]
	m.l = slices.Delete(m.l, at, at+1)
	f.name = to
	at, is = m.find(to)
	if is {
		m.l = slices.Delete(m.l, at, at+1)
	}
	m.l = slices.Insert(m.l, at, f)
	return api.OK
}

func (m *telling) remove(name string) api.Errno {
	at, is := m.find(name)
	if m.out {
		return api.ErrBroken
	}
	if !is {
		return api.ErrMissing
	}
	if !m.goes() {
		return api.ErrBroken
	}
	m.l = slices.Delete(m.l, at, at+1)
	return api.OK
}

func (m *telling) read(name string) ([]byte, api.Errno) {
	at, is := m.find(name)
	if m.out {
		return nil, api.ErrBroken
	}
	if !is {
		return nil, api.ErrMissing
	}
	return m.l[at].b, api.OK
}

func (m *telling) fuse(n int) api.Errno {
	if n < 0 {
		return api.ErrArg
	}
	m.left = []int{n}
	return api.OK
}

func (m *telling) resize(room int) api.Errno {
	if room < 0 || room > 1<<24 {
		return api.ErrRange
	}
	m.room = room
	return api.OK
}

func (m *telling) crash(keeps []int) api.Errno {
	for i, f := range m.l {
		loose := len(f.b) - f.safe
		stay := 0
		if i < len(keeps) {
			stay = stays(keeps[i], loose)
		}
		m.l[i] = kept{f.name, f.b[:f.safe+stay], f.safe + stay}
	}
	m.out, m.left = false, nil
	return api.OK
}

func (m *telling) flip(name string, bit int) api.Errno {
	at, is := m.find(name)
	if !is {
		return api.ErrMissing
	}
	b := bytes.Clone(m.l[at].b)
	if bit < 0 || bit >= 8*len(b) {
		return api.ErrRange
	}
	b[bit>>3] ^= byte(1 << (bit & 7))
	m.l[at].b = b
	return api.OK
}

// both is a disk and its telling, to which the same is done.
type both struct {
	d    *disk.Disk
	m    *telling
	r    *rand.Rand
	errs map[string]int // how often each call answered each error
}

// name tells a name: mostly one of few, so that they come again.
func (x both) name() string {
	if x.r.Intn(25) == 0 {
		return []string{"", "A", named(60), named(61), "a\x00", "é"}[x.r.Intn(6)]
	}
	return []string{"a", "b", "a/b", "a.tmp", "c", "ab", "0", "-"}[x.r.Intn(8)]
}

// bytes tells a few bytes, now and then more of them.
func (x both) bytes() []byte {
	b := make([]byte, x.r.Intn(1+x.r.Intn(40)))
	x.r.Read(b)
	return b
}

// step does a step, and tells what both answered.
func (x both) step() (what string, got, want api.Errno) {
	switch a := x.name(); x.r.Intn(9) {
	case 0, 1, 2, 3:
		b := x.bytes()
		return "Append", x.d.Append(a, b), x.m.append(a, b)
	case 4, 5:
		return "Sync", x.d.Sync(a), x.m.sync(a)
	case 6, 7:
		to := x.name()
		return "Rename", x.d.Rename(a, to), x.m.rename(a, to)
	default:
		return "Remove", x.d.Remove(a), x.m.remove(a)
	}
}

// do does one thing, mostly a step, and tells what both answered.
func (x both) do() (what string, got, want api.Errno) {
	switch x.r.Intn(30) {
	case 0:
		n := x.r.Intn(22) - 2
		return "Fuse", x.d.Fuse(n), x.m.fuse(n)
	case 1, 2:
		keeps := make([]int, x.r.Intn(10))
		for i := range keeps {
			keeps[i] = x.r.Intn(90) - 45
		}
		return "Crash", x.d.Crash(keeps), x.m.crash(keeps)
	case 3, 4:
		a, bit := x.name(), x.r.Intn(200)-5
		return "Flip", x.d.Flip(a, bit), x.m.flip(a, bit)
	case 5:
		room := x.r.Intn(160) - 3
		return "Resize", x.d.Resize(room), x.m.resize(room)
	}
	return x.step()
}

// wantAlike says that a disk tells all of itself as its telling does.
func (x both) wantAlike(t *testing.T) {
	t.Helper()
	var names []string
	for _, f := range x.m.l {
		names = append(names, f.name)
		if n := x.d.Loose(f.name); n != len(f.b)-f.safe {
			t.Errorf("of %s %d are under way; want %d", f.name, n, len(f.b)-f.safe)
		}
	}
	for _, name := range append(names, "x", "", "a") {
		got, err := x.d.Read(name)
		want, wanted := x.m.read(name)
		if !bytes.Equal(got, want) || err != wanted {
			t.Errorf("Read(%q): %x, %v; want %x, %v", name, got, err, want, wanted)
		}
	}
	if got := x.d.Names(""); !slices.Equal(got, names) {
		t.Errorf("there are %q; want %q", got, names)
	}
	if x.d.Used() != x.m.used() || x.d.Steps() != x.m.steps || x.d.Up() == x.m.out {
		t.Errorf("%d bytes, %d steps, up: %v; want %d, %d, %v", x.d.Used(), x.d.Steps(), x.d.Up(), x.m.used(), x.m.steps, !x.m.out)
	}
}

// run does so many things, and holds what is told against what should be.
func (x both) run(t *testing.T, times int) {
	t.Helper()
	for i := range times {
		what, got, want := x.do()
		x.errs[fmt.Sprint(what, " ", want)]++
		wantErr(t, what, got, want)
		x.wantAlike(t)
		if t.Failed() {
			t.Fatalf("the %d-th: %s", i, what)
		}
	}
}

// Whatever is done, in whatever order, is told as the document's words say it; and all that may be answered is.
func TestAsTheWordsSay(t *testing.T) {
	errs := map[string]int{}
	for seed := range int64(120) {
		x := both{newDisk(t, 100), &telling{room: 100}, rand.New(rand.NewSource(seed)), errs}
		x.run(t, 400)
	}
	for what, l := range map[string][]api.Errno{
		"Append": {api.OK, api.ErrArg, api.ErrFull, api.ErrBroken},
		"Sync":   {api.OK, api.ErrMissing, api.ErrBroken},
		"Rename": {api.OK, api.ErrArg, api.ErrMissing, api.ErrState, api.ErrBroken},
		"Remove": {api.OK, api.ErrMissing, api.ErrBroken},
		"Fuse":   {api.OK, api.ErrArg},
		"Crash":  {api.OK},
		"Flip":   {api.OK, api.ErrMissing, api.ErrRange},
		"Resize": {api.OK, api.ErrRange},
	} {
		for _, err := range l {
			key := fmt.Sprint(what, " ", err)
			if errs[key] < 10 {
				t.Errorf("%s: just %d times", key, errs[key])
			}
			delete(errs, key)
		}
	}
	if len(errs) > 0 {
		t.Error(errs)
	}
}

// Likewise about the edge of how many files there may be.
func TestAsTheWordsSayOfManyFiles(t *testing.T) {
	errs := map[string]int{}
	for seed := range int64(4) {
		x := both{newDisk(t, 1<<20), &telling{room: 1 << 20}, rand.New(rand.NewSource(seed)), errs}
		for i := range 996 {
			name := fmt.Sprintf("f%03d", i)
			wantErr(t, name, x.d.Append(name, []byte{1}), x.m.append(name, []byte{1}))
		}
		for range 60 {
			what, got, want := x.step()
			errs[fmt.Sprint(what, " ", want)]++
			wantErr(t, what, got, want)
			x.wantAlike(t)
			if t.Failed() {
				t.Fatal("seed", seed)
			}
		}
	}
	if key := fmt.Sprint("Append ", api.ErrFull); errs[key] < 20 {
		t.Errorf("%s: just %d times", key, errs[key])
	}
}

// book is what was done with a file: all that was laid into it since it was there, and how much of that was synced.
type book struct {
	laid   []byte
	synced int
}

// books are those of all files, by what steps told.
type books map[string]book

// step does a step, and enters it, if it was done.
func (l books) step(d *disk.Disk, r *rand.Rand) api.Errno {
	a, to := string(rune('a'+r.Intn(5))), string(rune('a'+r.Intn(5)))
	was := l[a]
	switch r.Intn(8) {
	case 0, 1, 2, 3:
		b := make([]byte, r.Intn(9))
		r.Read(b)
		err := d.Append(a, b)
		if err == api.OK {
			l[a] = book{append(bytes.Clone(was.laid), b...), was.synced}
		}
		return err
	case 4, 5:
		err := d.Sync(a)
		if err == api.OK {
			l[a] = book{was.laid, len(was.laid)}
		}
		return err
	case 6:
		err := d.Rename(a, to)
		if err == api.OK {
			delete(l, a)
			l[to] = was
		}
		return err
	}
	err := d.Remove(a)
	if err == api.OK {
		delete(l, a)
	}
	return err
}

// wantKept says that of each file what was synced is there, at the front, and that all that is there is the beginning of what was laid; from now on this is what was laid.
func (l books) wantKept(t *testing.T, d *disk.Disk) {
	t.Helper()
	var names []string
	for name, f := range l {
		b, err := d.Read(name)
		if err != api.OK || !bytes.HasPrefix(b, f.laid[:f.synced]) || !bytes.HasPrefix(f.laid, b) || d.Loose(name) != 0 {
			t.Errorf("%s: %x, %v; %d of %x were synced", name, b, err, f.synced, f.laid)
		}
		names = append(names, name)
		l[name] = book{b, len(b)}
	}
	slices.Sort(names)
	if got := d.Names(""); !slices.Equal(got, names) {
		t.Errorf("%q; want %q", got, names)
	}
}

// Wherever a disk goes out, and whatever its crash leaves: what was synced is there, and nothing but what was laid.
func TestWhatWasSyncedIsThere(t *testing.T) {
	for seed := range int64(60) {
		r := rand.New(rand.NewSource(seed))
		d, l := newDisk(t, 60), books{}
		for range 40 {
			wantErr(t, "Fuse", d.Fuse(r.Intn(12)), api.OK)
			for i := 0; d.Up() && i < 1000; i++ {
				used := d.Used()
				if err := l.step(d, r); err != api.OK && d.Used() != used || d.Used() > 60 {
					t.Fatalf("seed %d: %v: %d bytes were there, %d are", seed, err, used, d.Used())
				}
			}
			if d.Up() {
				t.Errorf("seed %d: it never goes out", seed)
			}
			wantErr(t, "Crash", d.Crash([]int{r.Intn(20), -r.Intn(20), r.Intn(20), r.Intn(20)}), api.OK)
			l.wantKept(t, d)
			if t.Failed() {
				t.Fatal("seed", seed)
			}
		}
	}
}

// A crash of a disk of which nothing is under way changes nothing but that it is up again, be it out or not.
func TestCrashOfWhatIsSafe(t *testing.T) {
	want := []has{safe("a", 1, 2), safe("b"), safe("c", of(300)...)}
	for _, out := range []bool{false, true} {
		d := diskOf(t, want...)
		steps := d.Steps()
		for _, keeps := range [][]int{nil, {}, {1, 1, 1}, {-1, -1, -1}, {7, 8, 9, 10, 11}} {
			if out {
				d.Fuse(0)
				wantErr(t, "Sync", d.Sync("a"), api.ErrBroken)
			}
			wantErr(t, "Crash", d.Crash(keeps), api.OK)
			wantFiles(t, "safe", d, want...)
			wantSteps(t, d, steps)
		}
	}
}
