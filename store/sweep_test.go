package store_test

import (
	"fmt"
	"math"
	"testing"

	"copse/api"
	"copse/store"
	"copse/vector"
)

// five are versions of one key, rising in order: the first site's are the first and the last one, each other site has one.
func five() []api.Version {
	return []api.Version{ver(1, 0, 1, "a"), ver(2, 1, 1, "b"), ver(3, 2, 1, "c"), ver(3, 3, 1, "d"), ver(5, 0, 2, "e")}
}

// checkStay: of these versions of a key just those stay whose letters are told, rising in order. (The store has all of them behind it.)
func checkStay(t *testing.T, s *store.Store, key int, l []api.Version, want string) {
	t.Helper()
	got := ""
	for _, v := range l {
		// What is there can't be put: that tells which ones are, seen or not.
		if s.Put(key, v) != nil {
			got += v.Data
		}
	}
	if got != want {
		t.Errorf("%q stay, want %q", got, want)
	}
}

// 4.2: vectors that have none of a key, one, several, all, and not the last one.
func TestSweep(t *testing.T) {
	cases := []struct {
		name   string
		stable api.Vec
		want   string
	}{
		{"none", api.Vec{}, "abcde"},
		{"none, below 0", api.Vec{-1, -1, math.MinInt, -1}, "abcde"},
		{"the first", api.Vec{1, 0, 0, 0}, "abcde"},
		{"one in the middle", api.Vec{0, 0, 1, 0}, "abcde"},
		{"the first two", api.Vec{1, 1, 0, 0}, "bcde"},
		{"two apart", api.Vec{1, 0, 1, 0}, "bcde"},
		{"two of one Stamp", api.Vec{0, 0, 1, 1}, "abde"},
		{"three, not the last one", api.Vec{1, 1, 1, 0}, "cde"},
		{"all but the last one", api.Vec{1, 1, 1, 1}, "de"},
		{"the first and the last", api.Vec{2, 0, 0, 0}, "bcde"},
		{"the first, one, and the last", api.Vec{2, 0, 1, 0}, "bde"},
		{"all", api.Vec{2, 1, 1, 1}, "e"},
		{"all, and more", everything, "e"},
		{"all, beyond what may be", api.Vec{math.MaxInt, math.MaxInt, math.MaxInt, math.MaxInt}, "e"},
	}
	for _, c := range cases {
		for turns := 1; turns <= 3; turns++ {
			t.Run(fmt.Sprint(c.name, ", ", turns, " turns"), func(t *testing.T) {
				s := filled(t, 3, five()...)
				for range turns {
					s.Sweep(c.stable)
				}
				if got := s.Many(); got != len(c.want) {
					t.Errorf("Many() = %d, want %d", got, len(c.want))
				}
				checkStay(t, s, 3, five(), c.want)
			})
		}
	}
}

// 4.2: an empty store, and one that has nothing to drop.
func TestSweepOfLittle(t *testing.T) {
	var s store.Store
	s.Sweep(everything)
	s.Sweep(api.Vec{})
	checkHas(t, &s, everything, 0)
	checkErr(t, "Put", s.Put(0, ver(1, 0, 1, "a")), api.OK)
	s.Sweep(everything)
	checkHas(t, &s, everything, 1, "=a")
}

// 4.2: of each key all but its own last one.
func TestSweepOfAllKeys(t *testing.T) {
	var s store.Store
	want := make([]string, api.MaxKeys)
	for key := range api.MaxKeys {
		for i := range key {
			v := ver(1+i, i%api.MaxSites, 1+i, fmt.Sprint(i))
			checkErr(t, "Put", s.Put(key, v), api.OK)
			want[key] = "=" + v.Data
		}
	}
	checkHas(t, &s, everything, 28, want...)
	s.Sweep(everything)
	checkHas(t, &s, everything, api.MaxKeys-1, want...)
}

// 4.2: who has less than was swept by may miss what was dropped, and sees what stayed as it was.
func TestReadWithLessThanWasSwept(t *testing.T) {
	s := filled(t, 3, five()...)
	s.Sweep(api.Vec{1, 1, 1, 0})
	checkNoRead(t, s, 3, api.Vec{1, 1, 0, 0}, api.ErrNone)
	checkRead(t, s, 3, api.Vec{0, 0, 1, 0}, ver(3, 2, 1, "c"))
	checkRead(t, s, 3, api.Vec{0, 0, 0, 1}, ver(3, 3, 1, "d"))
	checkRead(t, s, 3, api.Vec{2, 0, 0, 0}, ver(5, 0, 2, "e"))
}

// 4.2: a last one that is Gone stays: what comes later, and is earlier in order, is not seen for it.
func TestSweepLeavesGone(t *testing.T) {
	s := filled(t, 0, ver(1, 0, 1, "a"), gone(5, 1, 1))
	s.Sweep(api.Vec{1, 1})
	checkHas(t, s, everything, 1)
	checkErr(t, "Put", s.Put(0, ver(4, 2, 1, "b")), api.OK)
	checkErr(t, "Put of what stayed", s.Put(0, gone(5, 1, 1)), api.ErrTwice)
	checkHas(t, s, everything, 2)
	checkNoRead(t, s, 0, everything, api.ErrNone)
	checkRead(t, s, 0, api.Vec{2: 1}, ver(4, 2, 1, "b"))
	s.Sweep(api.Vec{1, 1, 1})
	checkHas(t, s, everything, 1)
	checkHas(t, s, api.Vec{2: 1}, 1)
}

// 4.2: one that is Gone, and not the last one, is dropped as others are.
func TestSweepDropsGone(t *testing.T) {
	s := filled(t, 0, gone(1, 0, 1), ver(2, 1, 1, "b"), gone(3, 2, 1))
	s.Sweep(api.Vec{1, 1})
	checkHas(t, s, api.Vec{1, 1}, 2, "=b")
	checkHas(t, s, api.Vec{1, 1, 1}, 2)
}

// 4.1, 4.2: what was dropped is not there any more: it may be put again, and is not seen by who has what stayed.
func TestPutOfWhatWasDropped(t *testing.T) {
	s := filled(t, 3, five()...)
	s.Sweep(everything)
	for i, v := range five()[:4] {
		checkErr(t, "Put of what was dropped", s.Put(3, v), api.OK)
		checkHas(t, s, everything, 2+i, "", "", "", "=e")
	}
	checkErr(t, "Put of what stayed", s.Put(3, five()[4]), api.ErrTwice)
	s.Sweep(everything)
	checkHas(t, s, everything, 1, "", "", "", "=e")
}

// 4.2: behind a sweep versions come that are earlier in order than what stayed, between, and later.
func TestPutBehindASweep(t *testing.T) {
	late := []api.Version{ver(0, 3, 2, "v"), ver(2, 2, 2, "w"), ver(4, 1, 2, "x"), ver(6, 3, 3, "y")}
	for _, l := range orders(late) {
		s := filled(t, 3, five()...)
		s.Sweep(api.Vec{1, 1, 1, 1})
		for _, v := range l {
			checkErr(t, "Put", s.Put(3, v), api.OK)
		}
		if got := s.Many(); got != 6 {
			t.Errorf("Many() = %d, want 6", got)
		}
		checkRead(t, s, 3, api.Vec{1, 1, 1, 1}, ver(3, 3, 1, "d"))
		checkRead(t, s, 3, api.Vec{1, 1, 2, 2}, ver(3, 3, 1, "d"))
		checkRead(t, s, 3, api.Vec{1, 2, 1, 1}, ver(4, 1, 2, "x"))
		checkRead(t, s, 3, api.Vec{2, 2, 2, 2}, ver(5, 0, 2, "e"))
		checkRead(t, s, 3, api.Vec{2, 2, 2, 3}, ver(6, 3, 3, "y"))
		s.Sweep(api.Vec{2, 2, 2, 2})
		if got := s.Many(); got != 2 {
			t.Errorf("Many() behind a second sweep = %d, want 2", got)
		}
	}
}

// What is to be true of the whole, 2: sweeping is not seen by who has all that was swept by, also of what comes later.
func TestSweepIsNotSeen(t *testing.T) {
	now := []api.Version{ver(2, 0, 1, "a"), ver(3, 1, 1, "b"), gone(4, 2, 1), ver(5, 3, 2, "d"), ver(6, 0, 2, "e")}
	later := []api.Version{ver(1, 2, 2, "f"), ver(3, 3, 1, "g"), gone(4, 3, 1), ver(7, 1, 2, "h")}
	for _, stable := range vecs(2) {
		s, whole := filled(t, 1, now...), filled(t, 1, now...)
		s.Sweep(stable)
		checkNotSeen(t, s, whole, stable)
		for _, v := range later {
			checkErr(t, "Put", s.Put(1, v), api.OK)
			checkErr(t, "Put", whole.Put(1, v), api.OK)
			checkNotSeen(t, s, whole, stable)
		}
		s.Sweep(stable)
		checkNotSeen(t, s, whole, stable)
	}
}

// checkNotSeen: all vectors that have all that stable has read of both stores the same.
func checkNotSeen(t *testing.T, s, whole *store.Store, stable api.Vec) {
	t.Helper()
	for _, at := range vecs(2) {
		if !vector.Covers(at, stable) {
			continue
		}
		if want, err := whole.Read(1, at); err == nil {
			checkRead(t, s, 1, at, want)
		} else {
			checkNoRead(t, s, 1, at, api.ErrNone)
		}
	}
}
