package prekeys

// operate does an operation. A disk that is down changes nothing, so the change is called only when the disk has lived through its fuse.
func (d *Disk) operate(change func()) error {
	d.lock.Lock()
	defer d.lock.Unlock()
	d.burn()
	if d.down {
		return ErrDown
	}
	change()
	return nil
}

// burn takes an operation off the fuse, ahead of the operation itself: the n-th one already goes down. It is called under the lock.
func (d *Disk) burn() {
	if d.fuse == 0 {
		return
	}
	d.fuse--
	if d.fuse == 0 {
		d.down = true
	}
}

// keep makes the first bytes of what is only written safe, and forgets the rest. It is called under the lock.
func (d *Disk) keep(size int) {
	d.safe = append(d.safe, d.written[:size]...)
	d.written = nil
}
