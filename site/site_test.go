package site_test

import (
	"fmt"
	"math"
	"slices"
	"strings"
	"testing"

	"copse/api"
	"copse/plain"
	"copse/site"
)

// made is a site that has nothing.
func made(t *testing.T, id int) *site.Site {
	t.Helper()
	s, err := site.New(id)
	checkErr(t, fmt.Sprint("New ", id), err, api.OK)
	if s == nil {
		t.Fatalf("New(%d) made no site", id)
	}
	return s
}

// set is a write of a key; unset is one that is Gone.
func set(key int, data string) api.Write { return api.Write{Key: key, Data: data} }

func unset(key int) api.Write { return api.Write{Key: key, Gone: true} }

// tx is a transaction of that Site and Seq over deps, and over all ahead of it of its own site.
func tx(of, seq, wall int, deps api.Vec, l ...api.Write) api.Tx {
	deps[of] = seq - 1
	return api.Tx{Site: of, Seq: seq, Stamp: api.Stamp{Wall: wall}, Deps: deps, Writes: l}
}

// plainTx is one of which nothing but the site and the number matters.
func plainTx(of, seq int) api.Tx {
	return tx(of, seq, seq, api.Vec{}, set(of, fmt.Sprint(seq%1000)))
}

// takes lets a site take these, one by one.
func takes(t *testing.T, s *site.Site, l ...api.Tx) {
	t.Helper()
	for _, x := range l {
		checkErr(t, fmt.Sprint("Take ", x), s.Take(x), api.OK)
	}
}

// commits lets a site commit writes, over nothing of other sites.
func commits(t *testing.T, s *site.Site, now int, l ...api.Write) api.Tx {
	t.Helper()
	x, err := s.Commit(now, api.Vec{}, l)
	checkErr(t, fmt.Sprint("Commit ", l), err, api.OK)
	return x
}

// checkErr holds an error against what is wanted; it has no place (P3).
func checkErr(t *testing.T, what string, err error, want api.Errno) {
	t.Helper()
	if got, bare := plain.Bare(err); got != want || !bare {
		t.Errorf("%s: error %d (bare: %v), want %d", what, got, bare, want)
	}
}

func checkTx(t *testing.T, got, want api.Tx) {
	t.Helper()
	if !plain.Same(got, want) {
		t.Errorf("got %v, want %v", got, want)
	}
}

// checkLog: these were applied, one behind the other.
func checkLog(t *testing.T, s *site.Site, want ...api.Tx) {
	t.Helper()
	if got := s.Missing(api.Vec{}); !slices.EqualFunc(got, want, plain.Same) {
		t.Errorf("applied %v, want %v", got, want)
	}
}

// checkAt: so many of each site were applied, and so many wait.
func checkAt(t *testing.T, s *site.Site, applied api.Vec, waits int) {
	t.Helper()
	if got := s.Applied(); got != applied {
		t.Errorf("Applied() = %v, want %v", got, applied)
	}
	if got := s.Waits(); got != waits {
		t.Errorf("Waits() = %d, want %d", got, waits)
	}
}

// checkHas: so many versions there are, and that is what each key has; keys that are not told have nothing.
func checkHas(t *testing.T, s *site.Site, many int, want ...string) {
	t.Helper()
	if got := s.Many(); got != many {
		t.Errorf("Many() = %d, want %d", got, many)
	}
	for len(want) < api.MaxKeys {
		want = append(want, "")
	}
	if got := s.All(); !slices.Equal(got, want) {
		t.Errorf("All() = %q, want %q", got, want)
	}
}

func checkRead(t *testing.T, s *site.Site, key int, at api.Vec, want api.Version) {
	t.Helper()
	got, err := s.Read(key, at)
	if err != nil || got != want {
		t.Errorf("Read(%d, %v) = %v, %v, want %v", key, at, got, err, want)
	}
}

// checkNoRead: there is an error, and nothing beside it (P2).
func checkNoRead(t *testing.T, s *site.Site, key int, at api.Vec, want api.Errno) {
	t.Helper()
	got, err := s.Read(key, at)
	checkErr(t, fmt.Sprint("Read of ", key, " at ", at), err, want)
	if got != (api.Version{}) {
		t.Errorf("Read(%d, %v) = %v beside an error", key, at, got)
	}
}

// shown is all that a site tells of itself without being changed.
func shown(s *site.Site) string {
	l := []string{fmt.Sprint(s.Applied(), s.Waits(), s.Many(), s.Missing(api.Vec{}))}
	l = append(l, s.All()...)
	for sites := range api.MaxSites + 1 {
		l = append(l, fmt.Sprint(s.Stable(sites)))
	}
	for key := range api.MaxKeys {
		l = append(l, fmt.Sprint(s.Read(key, s.Applied())))
	}
	return strings.Join(l, "|")
}

// checkNoCommit: there is an error, nothing beside it, and nothing is changed (P2).
func checkNoCommit(t *testing.T, s *site.Site, now int, deps api.Vec, l []api.Write, want api.Errno) {
	t.Helper()
	before := shown(s)
	x, err := s.Commit(now, deps, l)
	checkErr(t, fmt.Sprint("Commit ", now, deps, l), err, want)
	if !plain.Same(x, api.Tx{}) {
		t.Errorf("Commit(%d, %v, %v) = %v beside an error", now, deps, l, x)
	}
	if got := shown(s); got != before {
		t.Errorf("Commit(%d, %v, %v) changed %s to %s", now, deps, l, before, got)
	}
}

// checkNoTake: there is an error, and nothing is changed (P2).
func checkNoTake(t *testing.T, s *site.Site, x api.Tx, want api.Errno) {
	t.Helper()
	before := shown(s)
	checkErr(t, fmt.Sprint("Take ", x), s.Take(x), want)
	if got := shown(s); got != before {
		t.Errorf("Take(%v) changed %s to %s", x, before, got)
	}
}

// 5.1: ids at the bounds; a new site has nothing.
func TestNew(t *testing.T) {
	for _, id := range []int{math.MinInt, -1, api.MaxSites, api.MaxSites + 1, math.MaxInt} {
		s, err := site.New(id)
		checkErr(t, fmt.Sprint("New ", id), err, api.ErrRange)
		if s != nil {
			t.Errorf("New(%d) made a site beside an error", id)
		}
	}
	for id := range api.MaxSites {
		s := made(t, id)
		checkAt(t, s, api.Vec{}, 0)
		checkHas(t, s, 0)
		checkLog(t, s)
		for key := range api.MaxKeys {
			checkNoRead(t, s, key, api.Vec{}, api.ErrNone)
		}
		want := tx(id, 1, 0, api.Vec{}, set(1, "a"))
		want.Stamp.Count = 1
		checkTx(t, commits(t, s, 0, set(1, "a")), want)
	}
}

// 5.1: sites have nothing of each other.
func TestSitesAreApart(t *testing.T) {
	a, b := made(t, 0), made(t, 0)
	commits(t, a, 1, set(1, "a"))
	takes(t, a, plainTx(1, 2))
	checkAt(t, a, api.Vec{1}, 1)
	checkAt(t, b, api.Vec{}, 0)
	checkHas(t, b, 0)
}

// 5.1, 5.2: each commit is the next one of its site, applied, and read there.
func TestCommit(t *testing.T) {
	s := made(t, 1)
	first := commits(t, s, 5, set(0, "a"), set(3, "b"))
	checkTx(t, first, tx(1, 1, 5, api.Vec{}, set(0, "a"), set(3, "b")))
	checkAt(t, s, api.Vec{0, 1}, 0)
	checkHas(t, s, 2, "=a", "", "", "=b")

	second := commits(t, s, 4, unset(0), set(7, ""))
	want := tx(1, 2, 5, api.Vec{0, 1}, unset(0), set(7, ""))
	want.Stamp.Count = 1
	checkTx(t, second, want)
	checkAt(t, s, api.Vec{0, 2}, 0)
	checkHas(t, s, 4, "", "", "", "=b", "", "", "", "=")
	checkLog(t, s, first, second)

	checkRead(t, s, 0, api.Vec{0, 1}, api.Version{Stamp: first.Stamp, Site: 1, Seq: 1, Data: "a"})
	checkRead(t, s, 7, api.Vec{0, 2}, api.Version{Stamp: second.Stamp, Site: 1, Seq: 2})
	checkNoRead(t, s, 0, api.Vec{0, 2}, api.ErrNone)
	checkNoRead(t, s, 7, api.Vec{0, 1}, api.ErrNone)
}

// 5.2: a transaction is over deps, but over all ahead of it of its own site.
func TestCommitOverDeps(t *testing.T) {
	s := made(t, 2)
	takes(t, s, plainTx(0, 1), plainTx(0, 2), plainTx(3, 1))
	for seq, deps := range []api.Vec{{2, 0, 0, 1}, {}, {1, 0, 1, 0}, {0, 0, 3, 1}, {2, 0, 0, 1}} {
		x, err := s.Commit(seq+10, deps, []api.Write{set(4, "v")})
		checkErr(t, fmt.Sprint("Commit over ", deps), err, api.OK)
		checkTx(t, x, tx(2, seq+1, seq+10, deps, set(4, "v")))
		checkAt(t, s, api.Vec{2, 0, seq + 1, 1}, 0)
	}
}

// 5.1, 5.2: the last stamp is the latest one of all that were applied, whoever's, whenever; what waits has no part in it.
func TestLastStamp(t *testing.T) {
	stamped := func(of, seq, wall, count int) api.Tx {
		x := plainTx(of, seq)
		x.Stamp = api.Stamp{Wall: wall, Count: count}
		return x
	}
	cases := []struct {
		name  string
		takes []api.Tx
		now   int
		want  api.Stamp
	}{
		{"none", nil, 0, api.Stamp{Wall: 0, Count: 1}},
		{"none, a later wall", nil, 1, api.Stamp{Wall: 1, Count: 0}},
		{"one", []api.Tx{stamped(1, 1, 9, 3)}, 4, api.Stamp{Wall: 9, Count: 4}},
		{"one, an equal wall", []api.Tx{stamped(1, 1, 9, 3)}, 9, api.Stamp{Wall: 9, Count: 4}},
		{"one, a later wall", []api.Tx{stamped(1, 1, 9, 3)}, 10, api.Stamp{Wall: 10, Count: 0}},
		{"falling of one site", []api.Tx{stamped(1, 1, 9, 3), stamped(1, 2, 2, 8)}, 4, api.Stamp{Wall: 9, Count: 4}},
		{"falling of two sites", []api.Tx{stamped(1, 1, 9, 3), stamped(2, 1, 9, 2)}, 4, api.Stamp{Wall: 9, Count: 4}},
		{"rising", []api.Tx{stamped(2, 1, 2, 8), stamped(1, 1, 9, 3)}, 4, api.Stamp{Wall: 9, Count: 4}},
		{"the latest one waits", []api.Tx{stamped(1, 1, 3, 3), stamped(1, 3, 9, 3)}, 4, api.Stamp{Wall: 4, Count: 0}},
		{"the latest one waited", []api.Tx{stamped(1, 2, 9, 3), stamped(1, 1, 3, 3)}, 4, api.Stamp{Wall: 9, Count: 4}},
	}
	for _, c := range cases {
		t.Run(c.name, func(t *testing.T) {
			s := made(t, 0)
			takes(t, s, c.takes...)
			if got := commits(t, s, c.now, set(1, "a")).Stamp; got != c.want {
				t.Errorf("stamp %v, want %v", got, c.want)
			}
		})
	}
}

// 5.2: Next's errors; a stamp at the last count; the walls at the bounds.
func TestCommitAtTheLastStamps(t *testing.T) {
	late := plainTx(1, 1)
	late.Stamp = api.Stamp{Wall: 5, Count: api.MaxTime}
	s := made(t, 0)
	takes(t, s, late)
	one := []api.Write{set(1, "a")}
	for _, now := range []int{math.MinInt, -1, api.MaxTime + 1, math.MaxInt} {
		checkNoCommit(t, s, now, api.Vec{}, one, api.ErrRange)
	}
	for _, now := range []int{0, 4, 5} {
		checkNoCommit(t, s, now, api.Vec{}, one, api.ErrFull)
	}
	checkTx(t, commits(t, s, 6, one...), tx(0, 1, 6, api.Vec{}, one...))
	checkTx(t, commits(t, s, api.MaxTime, one...), tx(0, 2, api.MaxTime, api.Vec{}, one...))

	last := plainTx(1, 2)
	last.Stamp = api.Stamp{Wall: api.MaxTime, Count: api.MaxTime}
	takes(t, s, last)
	checkNoCommit(t, s, api.MaxTime, api.Vec{}, one, api.ErrFull)
}

// 5.2: writes that are not right are told ahead of all else.
func TestCommitOfWrongWrites(t *testing.T) {
	s := made(t, 0)
	commits(t, s, 1, set(1, "a"))
	wrong := [][]api.Write{
		nil,
		{},
		{set(-1, "a")},
		{set(api.MaxKeys, "a")},
		{set(2, "a"), set(2, "b")},
		{set(2, "a"), set(1, "b")},
		{set(0, ""), set(1, ""), set(2, ""), set(3, ""), set(4, ""), set(5, "")},
		{set(2, strings.Repeat("x", api.MaxData+1))},
		{set(1, "a"), {Key: 2, Data: "a", Gone: true}},
	}
	for _, l := range wrong {
		checkNoCommit(t, s, 1, api.Vec{}, l, api.ErrArg)
		checkNoCommit(t, s, -1, api.Vec{}, l, api.ErrArg)
		checkNoCommit(t, s, -1, api.Vec{-1, 9}, l, api.ErrArg)
	}
	full := []api.Write{set(0, ""), set(1, strings.Repeat("x", api.MaxData)), unset(2), set(3, ""), set(api.MaxKeys-1, "")}
	checkTx(t, commits(t, s, 2, full...), tx(0, 2, 2, api.Vec{}, full...))
}

// 5.2: deps that are not Right, or that Applied does not cover, are told ahead of the clock's errors.
func TestCommitOverWrongDeps(t *testing.T) {
	s := made(t, 1)
	commits(t, s, 1, set(1, "a"))
	takes(t, s, plainTx(0, 1), plainTx(3, 1), plainTx(3, 2), plainTx(2, 2))
	checkAt(t, s, api.Vec{1, 1, 0, 2}, 1)
	wrong := []api.Vec{
		{-1, 0, 0, 0},
		{0, -1, 0, 0},
		{0, 0, 0, -1},
		{0, 0, math.MinInt, 0},
		{2, 1, 0, 2},
		{1, 2, 0, 2},
		{1, 1, 1, 2},
		{1, 1, 0, 3},
		{1, 1, 2, 2},
		{0, 0, 0, api.MaxTime},
		{api.MaxTime + 1, 0, 0, 0},
		{0, math.MaxInt, 0, 0},
	}
	for _, deps := range wrong {
		for _, now := range []int{-1, 1, api.MaxTime + 1} {
			checkNoCommit(t, s, now, deps, []api.Write{set(1, "b")}, api.ErrOrder)
		}
	}
	x, err := s.Commit(3, api.Vec{1, 1, 0, 2}, []api.Write{set(1, "b")})
	checkErr(t, "Commit over all", err, api.OK)
	checkTx(t, x, tx(1, 2, 3, api.Vec{1, 1, 0, 2}, set(1, "b")))
}

// 5.2: a site that applied MaxLog, whoever's; that is told behind wrong deps, and ahead of the clock's errors.
func TestCommitWhenFull(t *testing.T) {
	s := made(t, 0)
	for seq := 1; seq <= api.MaxLog-3; seq++ {
		commits(t, s, seq, set(1, "a"))
	}
	takes(t, s, plainTx(3, 1), plainTx(2, 1), plainTx(2, 3))
	commits(t, s, 0, set(1, "b"))
	checkAt(t, s, api.Vec{api.MaxLog - 2, 0, 1, 1}, 1)
	one := []api.Write{set(1, "c")}
	for _, now := range []int{-1, 0, api.MaxTime, api.MaxTime + 1} {
		checkNoCommit(t, s, now, api.Vec{}, one, api.ErrFull)
		checkNoCommit(t, s, now, api.Vec{0, 1}, one, api.ErrOrder)
		checkNoCommit(t, s, now, api.Vec{}, nil, api.ErrArg)
	}
	checkHas(t, s, api.MaxLog, "", "=b", "=1", "=1")
}

// 5.1: where a key has a version of that stamp and site it keeps that one; the other writes are put, and the transaction is applied like any other.
func TestWritesThatAreThere(t *testing.T) {
	first := tx(1, 1, 5, api.Vec{}, set(0, "a"), set(1, "b"))
	second := tx(1, 2, 5, api.Vec{}, set(0, "c"), unset(1), set(2, "d"))
	third := tx(1, 3, 5, api.Vec{}, unset(2))
	other := tx(2, 1, 5, api.Vec{}, set(1, "e"))
	s := made(t, 0)
	takes(t, s, first, second, third, other)
	checkAt(t, s, api.Vec{0, 3, 1}, 0)
	checkHas(t, s, 4, "=a", "=e", "=d")
	checkRead(t, s, 0, s.Applied(), api.Version{Stamp: first.Stamp, Site: 1, Seq: 1, Data: "a"})
	checkRead(t, s, 1, api.Vec{0, 3}, api.Version{Stamp: first.Stamp, Site: 1, Seq: 1, Data: "b"})
	checkRead(t, s, 2, s.Applied(), api.Version{Stamp: first.Stamp, Site: 1, Seq: 2, Data: "d"})
	checkLog(t, s, first, second, third, other)
	if got := commits(t, s, 5, set(0, "f")).Stamp; got != (api.Stamp{Wall: 5, Count: 1}) {
		t.Errorf("stamp %v behind all of Wall 5", got)
	}
}
