package store_test

import (
	"fmt"
	"math"
	"slices"
	"strings"
	"testing"

	"copse/api"
	"copse/plain"
	"copse/store"
)

// everything is a vector that has whatever may be put.
var everything = api.Vec{api.MaxTime, api.MaxTime, api.MaxTime, api.MaxTime}

// ver is a version of that Wall; gone is one that is Gone.
func ver(wall, site, seq int, data string) api.Version {
	return api.Version{Stamp: api.Stamp{Wall: wall}, Site: site, Seq: seq, Data: data}
}

func gone(wall, site, seq int) api.Version {
	v := ver(wall, site, seq, "")
	v.Gone = true
	return v
}

// but is a right version that is changed.
func but(change func(v *api.Version)) api.Version {
	v := api.Version{Stamp: api.Stamp{Wall: 5, Count: 4}, Site: 1, Seq: 3, Data: "ab"}
	change(&v)
	return v
}

// filled is a store that has these versions of one key.
func filled(t *testing.T, key int, l ...api.Version) *store.Store {
	t.Helper()
	s := new(store.Store)
	for _, v := range l {
		checkErr(t, fmt.Sprint("Put ", v), s.Put(key, v), api.OK)
	}
	return s
}

// vecs are all vectors of numbers from 0 to most.
func vecs(most int) []api.Vec {
	l := []api.Vec{{}}
	for i := range api.MaxSites {
		var longer []api.Vec
		for _, v := range l {
			for n := range most + 1 {
				v[i] = n
				longer = append(longer, v)
			}
		}
		l = longer
	}
	return l
}

// orders are all orders of a list.
func orders(l []api.Version) [][]api.Version {
	if len(l) == 0 {
		return [][]api.Version{nil}
	}
	var all [][]api.Version
	for i, first := range l {
		for _, rest := range orders(slices.Delete(slices.Clone(l), i, i+1)) {
			all = append(all, append([]api.Version{first}, rest...))
		}
	}
	return all
}

// checkErr holds an error against what is wanted; it has no place (P3).
func checkErr(t *testing.T, what string, err error, want api.Errno) {
	t.Helper()
	if got, bare := plain.Bare(err); got != want || !bare {
		t.Errorf("%s: error %d (bare: %v), want %d", what, got, bare, want)
	}
}

// checkRead: that is what a key has, and all of it.
func checkRead(t *testing.T, s *store.Store, key int, at api.Vec, want api.Version) {
	t.Helper()
	got, err := s.Read(key, at)
	if err != nil || got != want {
		t.Errorf("Read(%d, %v) = %v, %v, want %v", key, at, got, err, want)
	}
}

// checkNoRead: there is an error, and nothing beside it (P2).
func checkNoRead(t *testing.T, s *store.Store, key int, at api.Vec, want api.Errno) {
	t.Helper()
	got, err := s.Read(key, at)
	checkErr(t, fmt.Sprint("Read of ", key, " at ", at), err, want)
	if got != (api.Version{}) {
		t.Errorf("Read(%d, %v) = %v beside an error", key, at, got)
	}
}

// checkHas: so many versions there are, and that is what each key has; keys that are not told have nothing.
func checkHas(t *testing.T, s *store.Store, at api.Vec, many int, want ...string) {
	t.Helper()
	if got := s.Many(); got != many {
		t.Errorf("Many() = %d, want %d", got, many)
	}
	for len(want) < api.MaxKeys {
		want = append(want, "")
	}
	if got := s.All(at); !slices.Equal(got, want) {
		t.Errorf("All(%v) = %q, want %q", at, got, want)
	}
}

// 4.1: the zero value.
func TestNewStoreIsEmpty(t *testing.T) {
	var s store.Store
	for _, at := range []api.Vec{{}, {1, 1, 1, 1}, everything, {-1, -1, -1, -1}} {
		checkHas(t, &s, at, 0)
		for key := range api.MaxKeys {
			checkNoRead(t, &s, key, at, api.ErrNone)
		}
	}
}

// Example 4 of the document.
func TestReadOfTheDocument(t *testing.T) {
	a, b := ver(5, 0, 1, "a"), ver(3, 1, 1, "b")
	for _, l := range orders([]api.Version{a, b}) {
		s := filled(t, 2, l...)
		checkRead(t, s, 2, api.Vec{1, 1}, a)
		checkRead(t, s, 2, api.Vec{0, 1}, b)
		checkRead(t, s, 2, api.Vec{1, 0}, a)
		checkNoRead(t, s, 2, api.Vec{}, api.ErrNone)
		checkHas(t, s, api.Vec{1, 1}, 2, "", "", "=a")
		checkHas(t, s, api.Vec{0, 1}, 2, "", "", "=b")
		checkHas(t, s, api.Vec{}, 2)
	}
}

// 4.1: keys at the bounds; a wrong key is told ahead of a wrong version.
func TestKeys(t *testing.T) {
	for _, key := range []int{0, 1, api.MaxKeys - 1} {
		s := filled(t, key, but(func(*api.Version) {}))
		checkRead(t, s, key, everything, but(func(*api.Version) {}))
		want := make([]string, key)
		checkHas(t, s, everything, 1, append(want, "=ab")...)
	}
	var s store.Store
	for _, key := range []int{math.MinInt, -api.MaxKeys, -1, api.MaxKeys, api.MaxKeys + 1, math.MaxInt} {
		what := fmt.Sprint("Put at ", key)
		checkErr(t, what, s.Put(key, but(func(*api.Version) {})), api.ErrRange)
		checkErr(t, what, s.Put(key, api.Version{}), api.ErrRange)
		checkErr(t, what, s.Put(key, ver(-1, -1, -1, strings.Repeat("x", 100))), api.ErrRange)
		checkNoRead(t, &s, key, everything, api.ErrRange)
		checkNoRead(t, &s, key, api.Vec{}, api.ErrRange)
	}
	checkHas(t, &s, everything, 0)
}

// 4.1: keys do not see each other.
func TestKeysAreApart(t *testing.T) {
	var s store.Store
	want := make([]string, api.MaxKeys)
	for key := range api.MaxKeys {
		v := ver(9-key, 0, 1, fmt.Sprint(key))
		want[key] = fmt.Sprint("=", key)
		checkErr(t, "Put", s.Put(key, v), api.OK)
		checkRead(t, &s, key, api.Vec{1}, v)
		checkHas(t, &s, api.Vec{1}, key+1, want[:key+1]...)
	}
	checkErr(t, "Put", s.Put(3, gone(20, 1, 1)), api.OK)
	want[3] = ""
	checkHas(t, &s, api.Vec{1, 1}, api.MaxKeys+1, want...)
}

type putCase struct {
	name string
	v    api.Version
	want api.Errno
}

func putCases() []putCase {
	full := strings.Repeat("x", api.MaxData)
	l := []putCase{
		{"nothing", api.Version{}, api.ErrArg},
		{"the first one", ver(0, 0, 1, ""), api.OK},
		{"site below 0", but(func(v *api.Version) { v.Site = -1 }), api.ErrArg},
		{"the first site", but(func(v *api.Version) { v.Site = 0 }), api.OK},
		{"the last site", but(func(v *api.Version) { v.Site = api.MaxSites - 1 }), api.OK},
		{"MaxSites", but(func(v *api.Version) { v.Site = api.MaxSites }), api.ErrArg},
		{"the least site", but(func(v *api.Version) { v.Site = math.MinInt }), api.ErrArg},
		{"the greatest site", but(func(v *api.Version) { v.Site = math.MaxInt }), api.ErrArg},
		{"seq below 0", but(func(v *api.Version) { v.Seq = -1 }), api.ErrArg},
		{"seq 0", but(func(v *api.Version) { v.Seq = 0 }), api.ErrArg},
		{"seq 1", but(func(v *api.Version) { v.Seq = 1 }), api.OK},
		{"seq MaxTime", but(func(v *api.Version) { v.Seq = api.MaxTime }), api.OK},
		{"seq above MaxTime", but(func(v *api.Version) { v.Seq = api.MaxTime + 1 }), api.ErrArg},
		{"the least seq", but(func(v *api.Version) { v.Seq = math.MinInt }), api.ErrArg},
		{"the greatest seq", but(func(v *api.Version) { v.Seq = math.MaxInt }), api.ErrArg},
		{"no data", but(func(v *api.Version) { v.Data = "" }), api.OK},
		{"MaxData", but(func(v *api.Version) { v.Data = full }), api.OK},
		{"one more than MaxData", but(func(v *api.Version) { v.Data = full + "x" }), api.ErrArg},
		{"much data", but(func(v *api.Version) { v.Data = strings.Repeat("x", 5000) }), api.ErrArg},
		{"MaxData bytes that are no text", but(func(v *api.Version) { v.Data = strings.Repeat("\xff", api.MaxData) }), api.OK},
		{"MaxData runes of two bytes", but(func(v *api.Version) { v.Data = strings.Repeat("\u00e9", api.MaxData) }), api.ErrArg},
		{"gone", but(func(v *api.Version) { v.Gone, v.Data = true, "" }), api.OK},
		{"gone with data", but(func(v *api.Version) { v.Gone = true }), api.ErrArg},
		{"gone with MaxData", but(func(v *api.Version) { v.Gone, v.Data = true, full }), api.ErrArg},
	}
	for _, n := range []int{0, 1, api.MaxTime} {
		l = append(l,
			putCase{fmt.Sprint("Wall ", n), but(func(v *api.Version) { v.Stamp.Wall = n }), api.OK},
			putCase{fmt.Sprint("Count ", n), but(func(v *api.Version) { v.Stamp.Count = n }), api.OK})
	}
	for _, n := range []int{math.MinInt, -1, api.MaxTime + 1, math.MaxInt} {
		l = append(l,
			putCase{fmt.Sprint("Wall ", n), but(func(v *api.Version) { v.Stamp.Wall = n }), api.ErrArg},
			putCase{fmt.Sprint("Count ", n), but(func(v *api.Version) { v.Stamp.Count = n }), api.ErrArg})
	}
	return l
}

// 4.1: what may be put, and what may not; that changes nothing.
func TestPut(t *testing.T) {
	for _, c := range putCases() {
		var s store.Store
		checkErr(t, c.name, s.Put(6, c.v), c.want)
		switch {
		case c.want != api.OK:
			checkHas(t, &s, everything, 0)
			checkNoRead(t, &s, 6, everything, api.ErrNone)
		case c.v.Gone:
			checkHas(t, &s, everything, 1)
			checkNoRead(t, &s, 6, everything, api.ErrNone)
		default:
			checkHas(t, &s, everything, 1, "", "", "", "", "", "", "="+c.v.Data)
			checkRead(t, &s, 6, everything, c.v)
		}
	}
}

// 4.1: one Stamp and Site, whatever else there is, is there once a key.
func TestPutTwice(t *testing.T) {
	first := but(func(*api.Version) {})
	s := filled(t, 4, first)
	same := []api.Version{
		first,
		but(func(v *api.Version) { v.Seq = 1 }),
		but(func(v *api.Version) { v.Seq = 4 }),
		but(func(v *api.Version) { v.Data = "other" }),
		but(func(v *api.Version) { v.Data, v.Gone = "", true }),
	}
	for _, v := range same {
		checkErr(t, fmt.Sprint("Put ", v), s.Put(4, v), api.ErrTwice)
		checkHas(t, s, everything, 1, "", "", "", "", "=ab")
		checkRead(t, s, 4, everything, first)
	}
	checkErr(t, "wrong, and there already", s.Put(4, but(func(v *api.Version) { v.Seq = 0 })), api.ErrArg)
	checkErr(t, "gone with data, and there already", s.Put(4, but(func(v *api.Version) { v.Gone = true })), api.ErrArg)
	checkErr(t, "at another key", s.Put(5, first), api.OK)
	checkErr(t, "at another key again", s.Put(5, first), api.ErrTwice)
	checkHas(t, s, everything, 2, "", "", "", "", "=ab", "=ab")
	others := []api.Version{
		but(func(v *api.Version) { v.Site = 0 }),
		but(func(v *api.Version) { v.Site = 2 }),
		but(func(v *api.Version) { v.Stamp.Wall = 4 }),
		but(func(v *api.Version) { v.Stamp.Count = 3 }),
		but(func(v *api.Version) { v.Stamp = api.Stamp{Wall: 4, Count: 5} }),
	}
	for i, v := range others {
		checkErr(t, fmt.Sprint("Put ", v), s.Put(4, v), api.OK)
		checkErr(t, fmt.Sprint("Put again ", v), s.Put(4, v), api.ErrTwice)
		if got := s.Many(); got != 3+i {
			t.Errorf("Many() = %d, want %d", got, 3+i)
		}
	}
}

// 4.1: one that is Gone is there, too.
func TestPutTwiceOfGone(t *testing.T) {
	s := filled(t, 0, gone(3, 2, 1))
	checkErr(t, "gone again", s.Put(0, gone(3, 2, 1)), api.ErrTwice)
	checkErr(t, "with data", s.Put(0, ver(3, 2, 2, "a")), api.ErrTwice)
	checkHas(t, s, everything, 1)
}

// 4.1: by Wall, then Count, then Site; not by Seq, Data or when it was put.
func TestOrder(t *testing.T) {
	rising := []api.Version{
		{Stamp: api.Stamp{Wall: 0, Count: api.MaxTime}, Site: 3, Seq: 1, Data: "z"},
		{Stamp: api.Stamp{Wall: 1, Count: 0}, Site: 2, Seq: 2, Data: "y"},
		{Stamp: api.Stamp{Wall: 1, Count: 1}, Site: 1, Seq: 2, Data: "x"},
		{Stamp: api.Stamp{Wall: 1, Count: 1}, Site: 2, Seq: 1, Data: ""},
		{Stamp: api.Stamp{Wall: 1, Count: 1}, Site: 3, Seq: 2, Data: "a"},
		{Stamp: api.Stamp{Wall: api.MaxTime, Count: 0}, Site: 0, Seq: 1, Data: "b"},
	}
	for i, low := range rising {
		for _, high := range rising[i+1:] {
			checkRead(t, filled(t, 0, low, high), 0, everything, high)
			checkRead(t, filled(t, 0, high, low), 0, everything, high)
		}
	}
	for _, l := range orders(rising) {
		checkRead(t, filled(t, 0, l...), 0, everything, rising[len(rising)-1])
	}
}

// 4.1: whichever order they are put in, all vectors read what a look at every version tells.
func TestEveryOrder(t *testing.T) {
	l := []api.Version{ver(2, 0, 2, "a"), ver(4, 0, 1, "b"), ver(3, 1, 1, ""), ver(3, 3, 2, "d"), gone(5, 2, 2)}
	for _, order := range orders(l) {
		var s store.Store
		var m model
		for _, v := range order {
			checkErr(t, "Put", s.Put(1, v), m.put(1, v))
		}
		for _, at := range vecs(2) {
			checkSame(t, &s, &m, at)
		}
	}
}

// 4.1: a vector has none, some or all of a site's.
func TestReadAt(t *testing.T) {
	a, b, c := ver(1, 2, 1, "a"), ver(2, 2, 4, "b"), ver(3, 2, api.MaxTime, "c")
	s := filled(t, 7, b, c, a)
	for _, none := range []int{math.MinInt, -1, 0} {
		checkNoRead(t, s, 7, api.Vec{5, 5, none, 5}, api.ErrNone)
		checkHas(t, s, api.Vec{5, 5, none, 5}, 3)
	}
	for _, n := range []int{1, 3} {
		checkRead(t, s, 7, api.Vec{2: n}, a)
	}
	for _, n := range []int{4, 5, api.MaxTime - 1} {
		checkRead(t, s, 7, api.Vec{2: n}, b)
	}
	for _, n := range []int{api.MaxTime, api.MaxTime + 1, math.MaxInt} {
		checkRead(t, s, 7, api.Vec{-1, -1, n, math.MinInt}, c)
	}
}

// 4.1: of one site, what is later in order is read, though its Seq is less.
func TestReadIsByOrderNotBySeq(t *testing.T) {
	s := filled(t, 0, ver(9, 1, 1, "late"), ver(2, 1, 5, "early"))
	checkRead(t, s, 0, api.Vec{0, 1}, ver(9, 1, 1, "late"))
	checkRead(t, s, 0, api.Vec{0, 5}, ver(9, 1, 1, "late"))
}

// 4.1: a last one that is Gone is not gone by.
func TestReadOfGone(t *testing.T) {
	s := filled(t, 0, ver(1, 0, 1, "a"), gone(2, 1, 1), ver(3, 2, 1, "c"))
	cases := []struct {
		at   api.Vec
		want string
	}{
		{api.Vec{1, 0, 0}, "a"},
		{api.Vec{0, 1, 0}, ""},
		{api.Vec{1, 1, 0}, ""},
		{api.Vec{1, 1, 1}, "c"},
		{api.Vec{0, 1, 1}, "c"},
	}
	for _, c := range cases {
		if c.want == "" {
			checkNoRead(t, s, 0, c.at, api.ErrNone)
			checkHas(t, s, c.at, 3)
			continue
		}
		if got, err := s.Read(0, c.at); err != nil || got.Data != c.want {
			t.Errorf("Read at %v = %v, %v, want %s", c.at, got, err, c.want)
		}
		checkHas(t, s, c.at, 3, "="+c.want)
	}
}

// 4.1: a key whose Data is empty has something; one that is Gone, or was never put, nothing.
func TestAllTellsEmptyFromNone(t *testing.T) {
	s := filled(t, 0, ver(1, 0, 1, ""))
	checkErr(t, "Put", s.Put(1, gone(1, 0, 1)), api.OK)
	checkErr(t, "Put", s.Put(3, ver(1, 0, 1, "=")), api.OK)
	checkHas(t, s, everything, 3, "=", "", "", "==")
}

// P4: what All answers is the caller's; reading changes nothing.
func TestAnswersAreOfTheirOwn(t *testing.T) {
	s := filled(t, 0, ver(1, 0, 1, "a"), ver(2, 0, 2, "b"))
	first, second := s.All(everything), s.All(everything)
	clear(first)
	_ = append(first[:0], "spoilt")
	if second[0] != "=b" {
		t.Errorf("two answers share memory: %q", second)
	}
	checkHas(t, s, everything, 2, "=b")
	checkHas(t, s, api.Vec{1}, 2, "=a")
}

// P4: stores do not see each other.
func TestStoresAreApart(t *testing.T) {
	s := filled(t, 0, ver(1, 0, 1, "a"))
	other := filled(t, 0, ver(1, 0, 1, "b"))
	checkHas(t, s, everything, 1, "=a")
	other.Sweep(everything)
	checkErr(t, "Put", other.Put(0, ver(2, 0, 2, "c")), api.OK)
	other.Sweep(everything)
	checkHas(t, other, everything, 1, "=c")
	checkHas(t, s, everything, 1, "=a")
}
