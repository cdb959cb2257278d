package disk

import (
	"slices"

	"purser/api"
)

// Arm arms a crash at an operation from now on.
func (d *Disk) Arm(f api.Fall) api.Errno {
	if !d.exists() {
		return api.ErrNil
	}
	if f.At < 1 {
		return api.ErrArg
	}
	d.armed = f
	d.armed.Keep = slices.Clone(f.Keep)
	return api.OK
}

// Fall crashes the disk now.
func (d *Disk) Fall(f api.Fall) api.Errno {
	if !d.exists() {
		return api.ErrNil
	}
	d.crash(f)
	return api.OK
}

// Boot brings the disk up.
func (d *Disk) Boot() api.Errno {
	if !d.exists() {
		return api.ErrNil
	}
	d.down = false
	return api.OK
}

// crash loses and damages bytes that are not durable, as fall describes, and takes the disk down.
func (d *Disk) crash(fall api.Fall) {
nextFile:
	for i, f := range d.ascending() {
		durable := f.floor
		f.bytes = f.bytes[:durable+survivors(fall.Keep, i, len(f.bytes)-durable)]
		f.floor = len(f.bytes)
		if i != fall.File {
			continue nextFile
		}
		damage(f.bytes[durable:], fall.Place, fall.Bits)
	}
	d.down = true
	d.armed = api.Fall{}
}

// survivors returns how many of the bytes of file i that are not durable survive.
func survivors(keep []int, i, most int) int {
	if i >= len(keep) {
		return 0
	}
	return min(max(keep[i], 0), most)
}

// damage turns four bytes of b from place on, as far as they belong to b.
func damage(b []byte, place int, bits uint32) {
	for i := range 4 {
		// Beyond the greatest integer the index becomes negative, and belongs to b no more.
		if at := place + i; at >= 0 && at < len(b) {
			b[at] ^= byte(bits >> (8 * i))
		}
	}
}
