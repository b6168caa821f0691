package disk

import (
	"strings"

	"satchel/api"
)

// Append lays bytes behind a file's, under way. A file that was not there is from then on.
func (d *Disk) Append(name string, b []byte) api.Errno {
	if err := d.ready(); err != api.OK {
		return err
	}
	f, is := d.files[name]
	switch {
	case !isName(name):
		return api.ErrArg
	case !is && len(d.files) >= api.MaxFiles:
		return api.ErrFull
	case len(b) > d.room-d.Used(): // there may be more than the room: then no bytes are too many, too
		return api.ErrFull
	}
	return d.step(func() {
		if !is {
			f = &file{}
			d.files[strings.Clone(name)] = f
		}
		f.loose = append(f.loose, b...)
	})
}

// Sync makes a file safe.
func (d *Disk) Sync(name string) api.Errno {
	f, err := d.find(name)
	if err != api.OK {
		return err
	}
	return d.step(func() { f.keep(len(f.loose)) })
}

// Rename gives a file another name, at once. Whatever had it is gone.
func (d *Disk) Rename(from, to string) api.Errno {
	if err := d.ready(); err != api.OK {
		return err
	}
	if !isName(to) {
		return api.ErrArg
	}
	f, err := d.find(from)
	if err != api.OK {
		return err
	}
	if len(f.loose) > 0 {
		return api.ErrState
	}
	return d.step(func() {
		delete(d.files, from) // first, for both names may be the same
		d.files[strings.Clone(to)] = f
	})
}

// Remove removes a file, at once.
func (d *Disk) Remove(name string) api.Errno {
	if _, err := d.find(name); err != api.OK {
		return err
	}
	return d.step(func() { delete(d.files, name) })
}

// find tells a file of a disk that is ready.
func (d *Disk) find(name string) (*file, api.Errno) {
	if err := d.ready(); err != api.OK {
		return nil, err
	}
	f, is := d.files[name]
	if !is {
		return nil, api.ErrMissing
	}
	return f, api.OK
}
