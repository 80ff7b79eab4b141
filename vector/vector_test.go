package vector_test

import (
	"math"
	"testing"

	"copse/api"
	"copse/vector"
)

// edges are the numbers at which an answer may change, with wrong ones at both ends.
func edges() []int {
	return []int{math.MinInt, -1, 0, 1, 2, api.MaxTime - 1, api.MaxTime, api.MaxTime + 1, math.MaxInt}
}

// all is a vector of one number.
func all(n int) api.Vec {
	var v api.Vec
	for i := range v {
		v[i] = n
	}
	return v
}

// with is a vector that has another number at one place.
func with(v api.Vec, place, n int) api.Vec {
	v[place] = n
	return v
}

// some are vectors of which many pairs lie beside, and many above each other.
func some() []api.Vec {
	l := []api.Vec{{1, 5}, {3, 2}, {0, 1, 2, 3}, {3, 2, 1, 0}, {2, 0, 2, 0}, {-1, api.MaxTime + 1, 0, 7}}
	for _, n := range edges() {
		l = append(l, all(n))
		for place := range api.MaxSites {
			l = append(l, with(all(1), place, n))
		}
	}
	return l
}

// Example 2 of the document.
func TestMaxOfTheDocument(t *testing.T) {
	if got := vector.Max(api.Vec{1, 5}, api.Vec{3, 2}); got != (api.Vec{3, 5}) {
		t.Errorf("Max((1, 5), (3, 2)) = %v, want (3, 5)", got)
	}
}

// 2.1
func TestMaxAndMin(t *testing.T) {
	cases := []struct{ a, b, most, least api.Vec }{
		{api.Vec{}, api.Vec{}, api.Vec{}, api.Vec{}},
		{api.Vec{1, 5}, api.Vec{3, 2}, api.Vec{3, 5}, api.Vec{1, 2}},
		{api.Vec{1, 2, 3, 4}, api.Vec{4, 3, 2, 1}, api.Vec{4, 3, 3, 4}, api.Vec{1, 2, 2, 1}},
		{api.Vec{7, 7, 7, 7}, api.Vec{7, 7, 7, 7}, api.Vec{7, 7, 7, 7}, api.Vec{7, 7, 7, 7}},
		{api.Vec{0, api.MaxTime, 0, api.MaxTime}, api.Vec{api.MaxTime, 0, 0, api.MaxTime}, api.Vec{api.MaxTime, api.MaxTime, 0, api.MaxTime}, api.Vec{0, 0, 0, api.MaxTime}},
		{api.Vec{-1, -2, 0, -3}, api.Vec{-2, -1, -1, 0}, api.Vec{-1, -1, 0, 0}, api.Vec{-2, -2, -1, -3}},
		{api.Vec{api.MaxTime + 1, 0, math.MinInt, math.MaxInt}, api.Vec{api.MaxTime, 0, math.MaxInt, math.MinInt}, api.Vec{api.MaxTime + 1, 0, math.MaxInt, math.MaxInt}, api.Vec{api.MaxTime, 0, math.MinInt, math.MinInt}},
	}
	for _, c := range cases {
		if got := vector.Max(c.a, c.b); got != c.most {
			t.Errorf("Max(%v, %v) = %v, want %v", c.a, c.b, got, c.most)
		}
		if got := vector.Min(c.a, c.b); got != c.least {
			t.Errorf("Min(%v, %v) = %v, want %v", c.a, c.b, got, c.least)
		}
	}
}

// 2.1: each place is joined by itself, whichever numbers meet there.
func TestMaxAndMinAtEachPlace(t *testing.T) {
	for place := range api.MaxSites {
		for _, x := range edges() {
			for _, y := range edges() {
				a, b := with(all(4), place, x), with(all(9), place, y)
				if got, want := vector.Max(a, b), with(all(9), place, max(x, y)); got != want {
					t.Errorf("Max(%v, %v) = %v, want %v", a, b, got, want)
				}
				if got, want := vector.Min(a, b), with(all(4), place, min(x, y)); got != want {
					t.Errorf("Min(%v, %v) = %v, want %v", a, b, got, want)
				}
			}
		}
	}
}

// 2.1
func TestCovers(t *testing.T) {
	cases := []struct {
		a, b api.Vec
		want bool
	}{
		{api.Vec{}, api.Vec{}, true},
		{api.Vec{3, 5}, api.Vec{3, 5}, true},
		{api.Vec{3, 5}, api.Vec{1, 5}, true},
		{api.Vec{1, 5}, api.Vec{3, 5}, false},
		{api.Vec{1, 5}, api.Vec{3, 2}, false},
		{api.Vec{3, 2}, api.Vec{1, 5}, false},
		{all(api.MaxTime), api.Vec{}, true},
		{api.Vec{}, all(api.MaxTime), false},
		{all(api.MaxTime), all(api.MaxTime), true},
		{all(api.MaxTime), all(api.MaxTime + 1), false},
		{api.Vec{}, all(-1), true},
		{all(-1), api.Vec{}, false},
		{all(math.MaxInt), all(math.MinInt), true},
		{all(math.MinInt), all(math.MaxInt), false},
	}
	for _, c := range cases {
		if got := vector.Covers(c.a, c.b); got != c.want {
			t.Errorf("Covers(%v, %v) = %v, want %v", c.a, c.b, got, c.want)
		}
	}
}

// 2.1: one number above is enough, wherever it stands.
func TestCoversAtEachPlace(t *testing.T) {
	for place := range api.MaxSites {
		for _, x := range edges() {
			for _, y := range edges() {
				a, b := with(all(9), place, x), with(all(4), place, y)
				if got := vector.Covers(a, b); got != (y <= x) {
					t.Errorf("Covers(%v, %v) = %v, want %v", a, b, got, y <= x)
				}
			}
		}
	}
}

// 2.1
func TestRight(t *testing.T) {
	cases := []struct {
		a    api.Vec
		want bool
	}{
		{api.Vec{}, true},
		{api.Vec{1, 2, 3, 4}, true},
		{all(api.MaxTime), true},
		{all(-1), false},
		{all(api.MaxTime + 1), false},
		{api.Vec{0, api.MaxTime, 0, api.MaxTime}, true},
		{api.Vec{-1, api.MaxTime + 1, 0, 0}, false},
	}
	for _, c := range cases {
		if got := vector.Right(c.a); got != c.want {
			t.Errorf("Right(%v) = %v, want %v", c.a, got, c.want)
		}
	}
}

// 2.1: one wrong number is enough, wherever it stands.
func TestRightAtEachPlace(t *testing.T) {
	for place := range api.MaxSites {
		for _, n := range edges() {
			a, want := with(all(1), place, n), 0 <= n && n <= api.MaxTime
			if got := vector.Right(a); got != want {
				t.Errorf("Right(%v) = %v, want %v", a, got, want)
			}
		}
	}
}

// What is to be true of the whole, 1: vectors are a lattice, and Covers is its order.
func TestVectorsAreALattice(t *testing.T) {
	for _, a := range some() {
		for _, b := range some() {
			checkTwo(t, a, b)
			for _, c := range some() {
				checkThree(t, a, b, c)
			}
		}
	}
}

func checkTwo(t *testing.T, a, b api.Vec) {
	t.Helper()
	most, least := vector.Max(a, b), vector.Min(a, b)
	if most != vector.Max(b, a) || least != vector.Min(b, a) {
		t.Errorf("%v, %v: Max or Min hangs on the order", a, b)
	}
	if vector.Max(a, least) != a || vector.Min(a, most) != a {
		t.Errorf("%v, %v: Max and Min do not take each other back", a, b)
	}
	if covers := vector.Covers(a, b); covers != (most == a) || covers != (least == b) {
		t.Errorf("%v, %v: Covers is not the order of Max and Min", a, b)
	}
}

func checkThree(t *testing.T, a, b, c api.Vec) {
	t.Helper()
	if vector.Max(vector.Max(a, b), c) != vector.Max(a, vector.Max(b, c)) {
		t.Errorf("%v, %v, %v: Max hangs on which two are joined first", a, b, c)
	}
	if vector.Min(vector.Min(a, b), c) != vector.Min(a, vector.Min(b, c)) {
		t.Errorf("%v, %v, %v: Min hangs on which two are joined first", a, b, c)
	}
}
