package disk

import "satchel/api"

// byteBits is how many bits a byte has.
const byteBits = 8

// Crash lets a disk crash, be it out or not: of the i-th file as many bytes under way stay as the i-th of keeps says.
func (d *Disk) Crash(keeps []int) api.Errno {
	if !d.made() {
		return api.ErrNil
	}
	for i, name := range d.Names("") {
		f := d.files[name]
		n := 0
		if i < len(keeps) {
			n = modulo(keeps[i], len(f.loose)+1)
		}
		f.keep(n)
	}
	d.out, d.fuse = false, noFuse
	return api.OK
}

// modulo tells a number modulo another one, never below 0.
func modulo(a, n int) int {
	m := a % n
	if m < 0 {
		return m + n
	}
	return m
}

// Flip turns a bit of a file, be the disk out or not.
func (d *Disk) Flip(name string, bit int) api.Errno {
	if !d.made() {
		return api.ErrNil
	}
	f, is := d.files[name]
	switch {
	case !is:
		return api.ErrMissing
	case bit < 0 || bit/byteBits >= f.size():
		return api.ErrRange
	}
	*f.at(bit / byteBits) ^= 1 << (bit % byteBits)
	return api.OK
}
