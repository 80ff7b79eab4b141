package site_test

import (
	"fmt"
	"math"
	"slices"
	"testing"

	"copse/api"
	"copse/plain"
	"copse/site"
)

// six is a site 1 that has three transactions of site 0, one of its own, two of site 2, and none of site 3, of which one waits.
func six(t *testing.T) (*site.Site, []api.Tx) {
	t.Helper()
	s := made(t, 1)
	l := []api.Tx{
		tx(0, 1, 1, api.Vec{}, set(0, "a"), set(1, "b")),
		tx(2, 1, 2, api.Vec{}, set(1, "c")),
		tx(0, 2, 3, api.Vec{2: 1}, unset(0)),
	}
	takes(t, s, plainTx(3, 2))
	takes(t, s, l...)
	l = append(l, commits(t, s, 4, set(1, "d")))
	rest := []api.Tx{tx(2, 2, 5, api.Vec{}, unset(1), set(2, "e")), tx(0, 3, 6, api.Vec{}, set(0, "f"))}
	takes(t, s, rest...)
	checkAt(t, s, api.Vec{3, 1, 2, 0}, 1)
	return s, append(l, rest...)
}

// 5.4: Read tells what the store tells, at any vector that Applied covers.
func TestRead(t *testing.T) {
	s, l := six(t)
	of := func(place, write int) api.Version {
		x := l[place]
		w := x.Writes[write]
		return api.Version{Stamp: x.Stamp, Site: x.Site, Seq: x.Seq, Data: w.Data, Gone: w.Gone}
	}
	checkRead(t, s, 0, api.Vec{3, 1, 2, 0}, of(5, 0))
	checkRead(t, s, 0, api.Vec{1, 0, 0, 0}, of(0, 0))
	checkRead(t, s, 0, api.Vec{1, -1, -1, math.MinInt}, of(0, 0))
	checkRead(t, s, 1, api.Vec{1, 0, 0, 0}, of(0, 1))
	checkRead(t, s, 1, api.Vec{1, 0, 1, 0}, of(1, 0))
	checkRead(t, s, 1, api.Vec{3, 1, 1, 0}, of(3, 0))
	checkRead(t, s, 2, api.Vec{0, 0, 2, 0}, of(4, 1))
	checkNoRead(t, s, 0, api.Vec{2, 1, 2, 0}, api.ErrNone)
	checkNoRead(t, s, 0, api.Vec{0, 1, 2, 0}, api.ErrNone)
	checkNoRead(t, s, 1, api.Vec{3, 1, 2, 0}, api.ErrNone)
	checkNoRead(t, s, 1, api.Vec{-1, -1, -1, -1}, api.ErrNone)
	checkNoRead(t, s, 3, api.Vec{3, 1, 2, 0}, api.ErrNone)
	checkHas(t, s, 8, "=f", "", "=e")
}

// 5.4: Read at a vector that Applied does not cover; a key that is none is told behind that.
func TestReadWrong(t *testing.T) {
	s, _ := six(t)
	keys := []int{math.MinInt, -1, api.MaxKeys, math.MaxInt}
	for _, at := range []api.Vec{{4, 1, 2, 0}, {3, 2, 2, 0}, {3, 1, 3, 0}, {3, 1, 2, 1}, {0, 0, 0, 2}, {0, 0, math.MaxInt, 0}, {-1, -1, -1, api.MaxTime}} {
		for _, key := range append([]int{0, 1, 5}, keys...) {
			checkNoRead(t, s, key, at, api.ErrOrder)
		}
	}
	for _, at := range []api.Vec{{}, {3, 1, 2, 0}, {-1, -1, -1, -1}} {
		for _, key := range keys {
			checkNoRead(t, s, key, at, api.ErrRange)
		}
	}
}

// 5.4: vectors that have none, some or all.
func TestMissing(t *testing.T) {
	s, l := six(t)
	cases := []struct {
		name string
		has  api.Vec
		want []int
	}{
		{"none", api.Vec{}, []int{0, 1, 2, 3, 4, 5}},
		{"below 0", api.Vec{-1, -1, math.MinInt, -1}, []int{0, 1, 2, 3, 4, 5}},
		{"one", api.Vec{1, 0, 0, 0}, []int{1, 2, 3, 4, 5}},
		{"one of each", api.Vec{1, 1, 1, 1}, []int{2, 4, 5}},
		{"two of each", api.Vec{2, 2, 2, 2}, []int{5}},
		{"all but its own", api.Vec{3, 0, 2, 0}, []int{3}},
		{"its own", api.Vec{0, 1, 0, 0}, []int{0, 1, 2, 4, 5}},
		{"all of one site", api.Vec{3, 0, 0, 0}, []int{1, 3, 4}},
		{"all but the last one", api.Vec{2, 1, 2, 0}, []int{5}},
		{"all", api.Vec{3, 1, 2, 0}, nil},
		{"more", api.Vec{4, 2, 3, 1}, nil},
		{"more than may be", api.Vec{math.MaxInt, math.MaxInt, math.MaxInt, math.MaxInt}, nil},
		{"more of one site", api.Vec{0, 0, 0, 9}, []int{0, 1, 2, 3, 4, 5}},
	}
	for _, c := range cases {
		t.Run(c.name, func(t *testing.T) {
			var want []api.Tx
			for _, place := range c.want {
				want = append(want, l[place])
			}
			if got := s.Missing(c.has); !slices.EqualFunc(got, want, plain.Same) {
				t.Errorf("Missing(%v) = %v, want %v", c.has, got, want)
			}
		})
	}
}

// 5.4: what was swept is missing as before.
func TestMissingBehindSweep(t *testing.T) {
	s, l := six(t)
	s.Sweep(s.Applied())
	checkLog(t, s, l...)
}

func checkStable(t *testing.T, s *site.Site, sites int, want api.Vec) {
	t.Helper()
	if got := s.Stable(sites); got != want {
		t.Errorf("Stable(%d) = %v, want %v", sites, got, want)
	}
}

// 5.4: sites at the bounds; with an error nothing is known.
func TestKnowsOfNoSite(t *testing.T) {
	s, _ := six(t)
	before := shown(s)
	for _, other := range []int{math.MinInt, -1, api.MaxSites, math.MaxInt} {
		checkErr(t, fmt.Sprint("Knows of ", other), s.Knows(other, api.Vec{3, 1, 2, 0}), api.ErrRange)
	}
	if got := shown(s); got != before {
		t.Errorf("Knows of no site changed %s to %s", before, got)
	}
	for other := range api.MaxSites {
		checkErr(t, fmt.Sprint("Knows of ", other), s.Knows(other, api.Vec{3, 1, 2, 0}), api.OK)
	}
	checkStable(t, s, api.MaxSites, api.Vec{3, 1, 2, 0})
}

// 5.4: what is known twice is the greater number of each; nothing below 0 is known.
func TestKnowsTwice(t *testing.T) {
	s, _ := six(t)
	steps := []struct{ has, want api.Vec }{
		{api.Vec{1, 0, 2, 0}, api.Vec{1, 0, 2, 0}},
		{api.Vec{2, 0, 0, 0}, api.Vec{2, 0, 2, 0}},
		{api.Vec{2, 0, 0, 0}, api.Vec{2, 0, 2, 0}},
		{api.Vec{}, api.Vec{2, 0, 2, 0}},
		{api.Vec{-1, -1, math.MinInt, -1}, api.Vec{2, 0, 2, 0}},
		{api.Vec{0, 9, 9, 9}, api.Vec{2, 1, 2, 0}},
		{api.Vec{math.MaxInt, 0, 0, 0}, api.Vec{3, 1, 2, 0}},
	}
	for _, step := range steps {
		checkErr(t, "Knows", s.Knows(0, step.has), api.OK)
		checkStable(t, s, 1, step.want)
	}
	// What is known of a site grows with what this one applied, where it was more.
	takes(t, s, plainTx(3, 1), plainTx(0, 4))
	checkStable(t, s, 1, api.Vec{4, 1, 2, 2})

	below := made(t, 1)
	checkErr(t, "Knows", below.Knows(0, api.Vec{-1, -1, -1, -1}), api.OK)
	checkStable(t, below, 1, api.Vec{})
}

// 5.4: of 0, 1, MaxSites and more sites, and of a number below 0; this site's own is what it applied, whatever it was told of itself.
func TestStable(t *testing.T) {
	s, _ := six(t)
	for _, sites := range []int{math.MinInt, -1, 0} {
		checkStable(t, s, sites, api.Vec{3, 1, 2, 0})
	}
	for _, sites := range []int{1, 2, 3, api.MaxSites, api.MaxSites + 1, math.MaxInt} {
		checkStable(t, s, sites, api.Vec{})
	}
	checkErr(t, "Knows", s.Knows(0, api.Vec{3, 1, 1, 1}), api.OK)
	checkErr(t, "Knows", s.Knows(1, api.Vec{1, 0, 0, 0}), api.OK)
	checkErr(t, "Knows", s.Knows(2, api.Vec{2, 1, 2, 0}), api.OK)
	checkErr(t, "Knows", s.Knows(3, api.Vec{2, 0, 9, 9}), api.OK)
	want := []api.Vec{{3, 1, 2, 0}, {3, 1, 1, 0}, {3, 1, 1, 0}, {2, 1, 1, 0}, {2, 0, 1, 0}}
	for sites, v := range want {
		checkStable(t, s, sites, v)
	}
	for _, sites := range []int{math.MinInt, -1} {
		checkStable(t, s, sites, want[0])
	}
	for _, sites := range []int{api.MaxSites + 1, math.MaxInt} {
		checkStable(t, s, sites, want[api.MaxSites])
	}
}

// 5.4: of those of a key that stable has the last one stays; a Sweep by more than was applied drops no more than one by Applied.
func TestSweep(t *testing.T) {
	cases := []struct {
		name   string
		stable api.Vec
		many   int
	}{
		{"none", api.Vec{}, 8},
		{"below 0", api.Vec{-1, math.MinInt, -1, -1}, 8},
		{"one of each", api.Vec{1, 1, 1, 1}, 6},
		{"one of two sites", api.Vec{1, 0, 1, 0}, 7},
		{"all of one site", api.Vec{3, 0, 0, 0}, 6},
		{"all", api.Vec{3, 1, 2, 0}, 3},
		{"more", api.Vec{9, 9, 9, 9}, 3},
		{"more than may be", api.Vec{math.MaxInt, math.MaxInt, math.MaxInt, math.MaxInt}, 3},
	}
	for _, c := range cases {
		t.Run(c.name, func(t *testing.T) {
			s, l := six(t)
			for range 2 {
				s.Sweep(c.stable)
				checkHas(t, s, c.many, "=f", "", "=e")
				checkAt(t, s, api.Vec{3, 1, 2, 0}, 1)
				checkLog(t, s, l...)
			}
			// What comes later is seen as if nothing had been swept: a version that is gone still hides the earlier ones.
			takes(t, s, tx(3, 1, 3, api.Vec{}, set(0, "x"), set(1, "y"), set(3, "z")))
			checkHas(t, s, c.many+4, "=f", "", "=e", "=z")
		})
	}
}

// 5.4: who has all that was swept by sees nothing of it, also of what comes later.
func TestSweepIsNotSeen(t *testing.T) {
	l := grown(t)
	for _, order := range orders(len(l)) {
		swept, whole := made(t, 3), made(t, 3)
		for _, place := range order {
			takes(t, swept, l[place])
			takes(t, whole, l[place])
			swept.Sweep(swept.Applied())
			if got, want := swept.All(), whole.All(); !slices.Equal(got, want) {
				t.Errorf("All() = %q where it was swept, else %q", got, want)
			}
			for key := range api.MaxKeys {
				at := whole.Applied()
				got, gotErr := swept.Read(key, at)
				want, wantErr := whole.Read(key, at)
				if got != want || gotErr != wantErr {
					t.Errorf("Read(%d, %v) = %v, %v where it was swept, else %v, %v", key, at, got, gotErr, want, wantErr)
				}
			}
		}
	}
}

// P4: what was handed in may be changed; nothing of it is kept, and nothing behind a list's length is touched.
func TestListsHandedIn(t *testing.T) {
	s := made(t, 0)
	hand := func(data string, take func(l []api.Write)) {
		all := []api.Write{set(1, data), set(2, data), set(3, "behind")}
		take(all[:2])
		if all[0] != set(1, data) || all[1] != set(2, data) || all[2] != set(3, "behind") {
			t.Errorf("%v was written into", all)
		}
		clear(all)
	}
	var own api.Tx
	hand("a", func(l []api.Write) { own = commits(t, s, 1, l...) })
	checkTx(t, own, tx(0, 1, 1, api.Vec{}, set(1, "a"), set(2, "a")))
	hand("b", func(l []api.Write) { takes(t, s, tx(1, 2, 3, api.Vec{}, l...)) })
	hand("c", func(l []api.Write) { takes(t, s, tx(1, 1, 2, api.Vec{}, l...)) })
	checkLog(t, s,
		tx(0, 1, 1, api.Vec{}, set(1, "a"), set(2, "a")),
		tx(1, 1, 2, api.Vec{}, set(1, "c"), set(2, "c")),
		tx(1, 2, 3, api.Vec{}, set(1, "b"), set(2, "b")))
	checkHas(t, s, 6, "", "=b", "=b")
}

// P4: what comes out is the caller's: it may be changed, and no two lists of it share memory.
func TestListsHandedOut(t *testing.T) {
	s := made(t, 0)
	spoil := func(l []api.Tx) {
		for i := range l {
			whole := l[i].Writes[:cap(l[i].Writes)]
			for j := range whole {
				whole[j] = set(i, "spoilt")
			}
		}
		for i := range l {
			for _, w := range l[i].Writes {
				if w != set(i, "spoilt") {
					t.Errorf("list %d shares memory with another one", i)
				}
			}
		}
		clear(l[:cap(l)])
	}
	spoil([]api.Tx{commits(t, s, 1, set(1, "a"), set(2, "b")), commits(t, s, 2, set(2, "c"))})
	want := []api.Tx{tx(0, 1, 1, api.Vec{}, set(1, "a"), set(2, "b")), tx(0, 2, 2, api.Vec{}, set(2, "c"))}
	checkLog(t, s, want...)
	spoil(append(s.Missing(api.Vec{}), s.Missing(api.Vec{1})...))
	checkLog(t, s, want...)
	all := s.All()
	clear(all[:cap(all)])
	checkHas(t, s, 3, "", "=a", "=c")
}
