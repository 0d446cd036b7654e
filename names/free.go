package names

import "plimsoll/api"

// Free has places; those that are free are in a row, which has room for all.
type Free struct {
	row    chan int
	isFree []bool
}

// NewFree is n places, all of them free.
func NewFree(n int) (*Free, api.Errno) {
	if n < 1 || n > api.MaxCap {
		return nil, api.ErrRange
	}
	f := &Free{row: make(chan int, n), isFree: make([]bool, n)}
	for place := range n {
		f.Give(place)
	}
	return f, api.OK
}

// Take is the first place of the row, which is free no more, and whether there is one.
func (f *Free) Take() (int, bool) {
	if f == nil {
		return 0, false
	}
	select {
	case place := <-f.row:
		f.isFree[place] = false
		return place, true
	default:
		return 0, false
	}
}

// Give lays a place at the end of the row, and tells whether it could be: it is one, and was not free.
func (f *Free) Give(place int) bool {
	if f == nil || place < 0 || place >= len(f.isFree) || f.isFree[place] {
		return false
	}
	select {
	case f.row <- place:
		f.isFree[place] = true
		return true
	default:
		return false
	}
}

// Len is how many places are free.
func (f *Free) Len() int {
	if f == nil {
		return 0
	}
	return len(f.row)
}
