package disk

import "purser/api"

// Create makes an empty file.
func (d *Disk) Create(name string) api.Errno {
	if e := d.ready(); e != api.OK {
		return e
	}
	if _, taken := d.files[name]; taken || !valid(name) {
		return api.ErrDisk
	}
	return d.operate(d.armed.Done, func() { d.files[name] = &file{} })
}

// Append adds b at the end of a file.
func (d *Disk) Append(name string, b []byte) api.Errno {
	f, e := d.find(name)
	if e != api.OK {
		return e
	}
	if len(b) > d.Left() {
		return api.ErrFull
	}
	return d.operate(true, func() { f.bytes = append(f.bytes, b...) })
}

// Sync makes all bytes of a file durable.
func (d *Disk) Sync(name string) api.Errno {
	f, e := d.find(name)
	if e != api.OK {
		return e
	}
	return d.operate(false, func() { f.floor = len(f.bytes) })
}

// Truncate keeps the first n bytes of a file.
func (d *Disk) Truncate(name string, n int) api.Errno {
	f, e := d.find(name)
	if e != api.OK {
		return e
	}
	if n < 0 || n > len(f.bytes) {
		return api.ErrDisk
	}
	return d.operate(d.armed.Done, func() {
		f.bytes = f.bytes[:n]
		f.floor = min(f.floor, n)
	})
}

// Rename gives a file another name; a file that had it is removed.
func (d *Disk) Rename(from, to string) api.Errno {
	f, e := d.find(from)
	if e != api.OK {
		return e
	}
	if !valid(to) {
		return api.ErrDisk
	}
	return d.operate(d.armed.Done, func() {
		delete(d.files, from)
		d.files[to] = f
	})
}

// Remove removes a file.
func (d *Disk) Remove(name string) api.Errno {
	if _, e := d.find(name); e != api.OK {
		return e
	}
	return d.operate(d.armed.Done, func() { delete(d.files, name) })
}

// valid reports whether name may be that of a file.
func valid(name string) bool {
	if len(name) < 1 || len(name) > api.MaxFileName {
		return false
	}
	for i := range len(name) {
		c := name[i]
		if (c < 'a' || c > 'z') && (c < '0' || c > '9') && c != '.' && c != '-' {
			return false
		}
	}
	return true
}

// operate does an operation with that effect; if the disk crashes at it, the effect shows only if lasts is true.
func (d *Disk) operate(lasts bool, effect func()) api.Errno {
	d.operations++
	crashes := d.armed.At == 1
	if d.armed.At > 0 {
		d.armed.At--
	}
	if lasts || !crashes {
		effect()
	}
	if crashes {
		d.crash(d.armed)
		return api.ErrDown
	}
	return api.OK
}
