package disk

import (
	"maps"
	"slices"
	"strings"

	"satchel/api"
)

// Read tells a file's bytes, be they safe or under way.
func (d *Disk) Read(name string) ([]byte, api.Errno) {
	f, err := d.find(name)
	if err != api.OK {
		return nil, err
	}
	return f.all(), api.OK
}

// Names tells the names of all files that begin with a prefix, rising.
func (d *Disk) Names(prefix string) []string {
	if !d.made() {
		return nil
	}
	l := slices.Sorted(maps.Keys(d.files))
	return slices.DeleteFunc(l, func(name string) bool { return !strings.HasPrefix(name, prefix) })
}

// Loose tells how many bytes of a file are under way.
func (d *Disk) Loose(name string) int {
	if !d.made() {
		return 0
	}
	f, is := d.files[name]
	if !is {
		return 0
	}
	return len(f.loose)
}

// Used tells how many bytes all files have.
func (d *Disk) Used() int {
	if !d.made() {
		return 0
	}
	n := 0
	for _, f := range d.files {
		n += f.size()
	}
	return n
}

// Steps tells how many steps were done, ever.
func (d *Disk) Steps() int {
	if !d.made() {
		return 0
	}
	return int(d.steps.Load())
}

// Up tells whether a disk is not out.
func (d *Disk) Up() bool { return d.ready() == api.OK }
