package clock_test

import (
	"math"
	"testing"

	"copse/api"
	"copse/clock"
	"copse/plain"
)

// edges are the numbers at which an answer may change, rising, with wrong ones at both ends.
func edges() []int {
	return []int{math.MinInt, -1, 0, 1, 2, api.MaxTime - 1, api.MaxTime, api.MaxTime + 1, math.MaxInt}
}

// stamps are all of two edges, rising by Wall, then Count.
func stamps() []api.Stamp {
	var l []api.Stamp
	for _, w := range edges() {
		for _, c := range edges() {
			l = append(l, api.Stamp{Wall: w, Count: c})
		}
	}
	return l
}

func isTime(n int) bool { return 0 <= n && n <= api.MaxTime }

// 1.1
func TestRight(t *testing.T) {
	cases := []struct {
		wall, count int
		want        bool
	}{
		{0, 0, true},
		{5, 3, true},
		{api.MaxTime, 0, true},
		{0, api.MaxTime, true},
		{api.MaxTime, api.MaxTime, true},
		{-1, 0, false},
		{0, -1, false},
		{-1, -1, false},
		{api.MaxTime + 1, 0, false},
		{0, api.MaxTime + 1, false},
		{math.MinInt, 0, false},
		{0, math.MinInt, false},
		{math.MaxInt, 0, false},
		{0, math.MaxInt, false},
	}
	for _, c := range cases {
		s := api.Stamp{Wall: c.wall, Count: c.count}
		if got := clock.Right(s); got != c.want {
			t.Errorf("Right(%v) = %v, want %v", s, got, c.want)
		}
	}
}

// 1.1
func TestRightAtAllEdges(t *testing.T) {
	for _, s := range stamps() {
		want := isTime(s.Wall) && isTime(s.Count)
		if got := clock.Right(s); got != want {
			t.Errorf("Right(%v) = %v, want %v", s, got, want)
		}
	}
}

// 1.1
func TestCompare(t *testing.T) {
	cases := []struct {
		a, b api.Stamp
		want int
	}{
		{api.Stamp{}, api.Stamp{}, 0},
		{api.Stamp{Wall: 5, Count: 3}, api.Stamp{Wall: 5, Count: 3}, 0},
		{api.Stamp{Wall: 5, Count: 3}, api.Stamp{Wall: 5, Count: 4}, -1},
		{api.Stamp{Wall: 5, Count: 3}, api.Stamp{Wall: 5, Count: 1}, 1},
		{api.Stamp{Wall: 4, Count: 9}, api.Stamp{Wall: 5, Count: 0}, -1},
		{api.Stamp{Wall: 6, Count: 0}, api.Stamp{Wall: 5, Count: api.MaxTime}, 1},
		{api.Stamp{Wall: -1}, api.Stamp{}, -1},
		{api.Stamp{Count: -1}, api.Stamp{}, -1},
		// A difference of these would wrap round.
		{api.Stamp{Wall: math.MinInt}, api.Stamp{Wall: math.MaxInt}, -1},
		{api.Stamp{Count: math.MaxInt}, api.Stamp{Count: math.MinInt}, 1},
	}
	for _, c := range cases {
		if got := clock.Compare(c.a, c.b); got != c.want {
			t.Errorf("Compare(%v, %v) = %d, want %d", c.a, c.b, got, c.want)
		}
	}
}

// 1.1: of stamps that rise, the place tells how two compare, and which one is not below.
func TestCompareAndLaterAtAllEdges(t *testing.T) {
	l := stamps()
	for i, a := range l {
		for j, b := range l {
			want, later := 0, a
			if i < j {
				want, later = -1, b
			} else if i > j {
				want = 1
			}
			if got := clock.Compare(a, b); got != want {
				t.Errorf("Compare(%v, %v) = %d, want %d", a, b, got, want)
			}
			if got := clock.Later(a, b); got != later {
				t.Errorf("Later(%v, %v) = %v, want %v", a, b, got, later)
			}
		}
	}
}

// 1.1
func TestLater(t *testing.T) {
	cases := []struct{ a, b, want api.Stamp }{
		{api.Stamp{Wall: 5, Count: 3}, api.Stamp{Wall: 5, Count: 4}, api.Stamp{Wall: 5, Count: 4}},
		{api.Stamp{Wall: 5, Count: 4}, api.Stamp{Wall: 5, Count: 3}, api.Stamp{Wall: 5, Count: 4}},
		{api.Stamp{Wall: 6, Count: 0}, api.Stamp{Wall: 5, Count: 9}, api.Stamp{Wall: 6, Count: 0}},
		{api.Stamp{Wall: 5, Count: 9}, api.Stamp{Wall: 6, Count: 0}, api.Stamp{Wall: 6, Count: 0}},
		{api.Stamp{Wall: 2, Count: 2}, api.Stamp{Wall: 2, Count: 2}, api.Stamp{Wall: 2, Count: 2}},
		{api.Stamp{Wall: -1}, api.Stamp{}, api.Stamp{}},
		{api.Stamp{Wall: api.MaxTime + 1}, api.Stamp{}, api.Stamp{Wall: api.MaxTime + 1}},
	}
	for _, c := range cases {
		if got := clock.Later(c.a, c.b); got != c.want {
			t.Errorf("Later(%v, %v) = %v, want %v", c.a, c.b, got, c.want)
		}
	}
}

// checkNext asks for Next, and holds what it tells against what is wanted; its error has no place (P3).
func checkNext(t *testing.T, last api.Stamp, now int, want api.Stamp, errno api.Errno) {
	t.Helper()
	got, err := clock.Next(last, now)
	told, bare := plain.Bare(err)
	if got != want || told != errno || !bare {
		t.Errorf("Next(%v, %d) = %v, error %d (bare: %v), want %v, error %d", last, now, got, told, bare, want, errno)
	}
}

// Example 1 of the document.
func TestNextOfTheDocument(t *testing.T) {
	checkNext(t, api.Stamp{Wall: 5, Count: 3}, 4, api.Stamp{Wall: 5, Count: 4}, api.OK)
	checkNext(t, api.Stamp{Wall: 5, Count: 4}, 6, api.Stamp{Wall: 6, Count: 0}, api.OK)
}

// 1.1: now below, at and above last's Wall, the bounds, and the last Count.
func TestNext(t *testing.T) {
	cases := []struct {
		wall, count, now int
		want             api.Stamp
		errno            api.Errno
	}{
		{0, 0, 0, api.Stamp{Wall: 0, Count: 1}, api.OK},
		{0, 0, 1, api.Stamp{Wall: 1, Count: 0}, api.OK},
		{5, 3, 0, api.Stamp{Wall: 5, Count: 4}, api.OK},
		{5, 3, 5, api.Stamp{Wall: 5, Count: 4}, api.OK},
		{5, 3, 6, api.Stamp{Wall: 6, Count: 0}, api.OK},
		{5, 3, api.MaxTime, api.Stamp{Wall: api.MaxTime, Count: 0}, api.OK},
		{api.MaxTime - 1, 7, api.MaxTime, api.Stamp{Wall: api.MaxTime, Count: 0}, api.OK},
		{api.MaxTime, 7, api.MaxTime, api.Stamp{Wall: api.MaxTime, Count: 8}, api.OK},
		{5, api.MaxTime - 1, 5, api.Stamp{Wall: 5, Count: api.MaxTime}, api.OK},
		{5, api.MaxTime, 4, api.Stamp{}, api.ErrFull},
		{5, api.MaxTime, 5, api.Stamp{}, api.ErrFull},
		{5, api.MaxTime, 6, api.Stamp{Wall: 6, Count: 0}, api.OK},
		{api.MaxTime, api.MaxTime, api.MaxTime, api.Stamp{}, api.ErrFull},
	}
	for _, c := range cases {
		checkNext(t, api.Stamp{Wall: c.wall, Count: c.count}, c.now, c.want, c.errno)
	}
}

// 1.1: what is wrong is told ahead of what is full.
func TestNextOfWrongNumbers(t *testing.T) {
	cases := []struct{ wall, count, now int }{
		{-1, 0, 0},
		{0, -1, 0},
		{0, -1, 1},
		{0, 0, -1},
		{api.MaxTime + 1, 0, 0},
		{0, api.MaxTime + 1, 0},
		{0, api.MaxTime + 1, 1},
		{0, 0, api.MaxTime + 1},
		{5, api.MaxTime, -1},
		{5, api.MaxTime, api.MaxTime + 1},
		{-1, api.MaxTime, 0},
		{api.MaxTime + 1, api.MaxTime, 0},
		{math.MinInt, 0, 0},
		{math.MaxInt, math.MaxInt, math.MaxInt},
		{0, 0, math.MinInt},
		{0, 0, math.MaxInt},
	}
	for _, c := range cases {
		checkNext(t, api.Stamp{Wall: c.wall, Count: c.count}, c.now, api.Stamp{}, api.ErrRange)
	}
}

// What is to be true of the whole, 1: the next one is later; and it is right, and not behind the wall.
func TestNextIsLater(t *testing.T) {
	for _, last := range stamps() {
		for _, now := range edges() {
			checkIsLater(t, last, now)
		}
	}
}

func checkIsLater(t *testing.T, last api.Stamp, now int) {
	t.Helper()
	next, err := clock.Next(last, now)
	switch {
	case !isTime(last.Wall) || !isTime(last.Count) || !isTime(now):
		checkNext(t, last, now, api.Stamp{}, api.ErrRange)
	case now <= last.Wall && last.Count == api.MaxTime:
		checkNext(t, last, now, api.Stamp{}, api.ErrFull)
	case err != nil:
		t.Errorf("Next(%v, %d): %v", last, now, err)
	case clock.Compare(last, next) != -1 || !clock.Right(next) || next.Wall < now:
		t.Errorf("Next(%v, %d) = %v: not right, or not later", last, now, next)
	}
}
