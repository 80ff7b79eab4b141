// Package clock: times that never go back.
package clock

import (
	"cmp"

	"copse/api"
)

// Right says whether a stamp may be: both numbers from 0 to MaxTime.
func Right(s api.Stamp) (_ bool) {
	return isTime(s.Wall) && isTime(s.Count)
}

// Compare is -1, 0 or 1: by the wall, then the count.
func Compare(a, b api.Stamp) (_ int) {
	if c := cmp.Compare(a.Wall, b.Wall); c != 0 {
		return c
	}
	return cmp.Compare(a.Count, b.Count)
}

// Later is the later one of two.
func Later(a, b api.Stamp) (_ api.Stamp) {
	if Compare(a, b) < 0 {
		return b
	}
	return a
}

// Next is a stamp behind another one, when the wall shows now. ErrRange: the stamp may not be, or now is not from 0 to MaxTime; ErrFull: there is none.
func Next(last api.Stamp, now int) (_ api.Stamp, _ error) {
	if !Right(last) || !isTime(now) {
		return api.Stamp{}, api.ErrRange
	}
	if now > last.Wall {
		return api.Stamp{Wall: now}, nil
	}
	// A wall that stands, or went back, must not take the stamps back with it: only the count goes on.
	if last.Count == api.MaxTime {
		return api.Stamp{}, api.ErrFull
	}
	return api.Stamp{Wall: last.Wall, Count: last.Count + 1}, nil
}

func isTime(n int) bool {
	return n >= 0 && n <= api.MaxTime
}
