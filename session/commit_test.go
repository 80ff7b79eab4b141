package session_test

import (
	"fmt"
	"math"
	"slices"
	"testing"

	"copse/api"
	"copse/session"
	"copse/site"
)

// Example 7 of the document: what one commits at a site another one reads at another one, when it came there.
func TestCommitOfTheDocument(t *testing.T) {
	here, there := made(t, 0), made(t, 1)
	one, another := begun(t, here), begun(t, there)
	writes(t, one, set(2, "a"))
	tx := commits(t, one, here, 5)
	checkNoRead(t, another, there, 2, api.ErrNone)
	checkErr(t, "the site's Take", there.Take(tx), api.OK)
	// It came behind what the other one sees; its next one sees it.
	checkNoRead(t, another, there, 2, api.ErrNone)
	commits(t, another, there, 5)
	begins(t, another, there)
	checkRead(t, another, there, 2, "a")
}

// 6.2: the site's transaction, over what it saw; Past has that, and the transaction.
func TestCommit(t *testing.T) {
	x := holding(t)
	s := begun(t, x)
	writes(t, s, set(4, "c"), unset(0))
	tx := commits(t, s, x, 9)
	want := api.Tx{Site: 0, Seq: 4, Stamp: api.Stamp{Wall: 9}, Deps: api.Vec{3, 1}, Writes: []api.Write{unset(0), set(4, "c")}}
	checkTx(t, tx, want)
	checkTx(t, x.Missing(api.Vec{3, 1})[0], want)
	if got := x.All(); !slices.Equal(got, []string{"", "=b", "", "=", "=c", "", "", ""}) {
		t.Errorf("the site has %q", got)
	}
	checkClosed(t, s, x, api.Vec{4, 1})
	begins(t, s, x)
	checkNoRead(t, s, x, 0, api.ErrNone)
	checkRead(t, s, x, 4, "c")
}

// 6.2: of a site that is not the first one, Past has its number there.
func TestCommitAtEachSite(t *testing.T) {
	for id := range api.MaxSites {
		x := made(t, id)
		s := session.New()
		var past api.Vec
		for seq := 1; seq <= 3; seq++ {
			begins(t, s, x)
			writes(t, s, set(id, "a"))
			tx := commits(t, s, x, seq)
			checkTx(t, tx, api.Tx{Site: id, Seq: seq, Stamp: api.Stamp{Wall: seq}, Deps: past, Writes: []api.Write{set(id, "a")}})
			past[id] = seq
			checkClosed(t, s, x, past)
		}
	}
}

// 6.2: others commit there while it is Open: it is over what it saw, and over all ahead of it of its own site; Past has as many of that site, but no more of others.
func TestCommitBehindOthers(t *testing.T) {
	x := holding(t)
	s, other := begun(t, x), begun(t, x)
	writes(t, s, set(0, "mine"))
	writes(t, other, set(0, "other"))
	commits(t, other, x, 9)
	checkErr(t, "the site's Take", x.Take(api.Tx{Site: 1, Seq: 2, Deps: api.Vec{0, 1}, Writes: []api.Write{set(1, "c")}}), api.OK)
	checkErr(t, "the site's Take", x.Take(api.Tx{Site: 2, Seq: 1, Writes: []api.Write{set(5, "d")}}), api.OK)
	tx := commits(t, s, x, 10)
	checkTx(t, tx, api.Tx{Site: 0, Seq: 5, Stamp: api.Stamp{Wall: 10}, Deps: api.Vec{4, 1}, Writes: []api.Write{set(0, "mine")}})
	checkClosed(t, s, x, api.Vec{5, 1})
}

// 6.2: a Commit without writes is nothing that others are told; the site is not asked, whatever it would tell.
func TestCommitWithoutWrites(t *testing.T) {
	x := holding(t)
	for _, now := range []int{math.MinInt, -1, 0, 9, api.MaxTime + 1} {
		s := begun(t, x)
		before := shown(session.New(), x)
		checkTx(t, commits(t, s, x, now), api.Tx{})
		if got := shown(session.New(), x); got != before {
			t.Errorf("Commit changed the site from %s to %s", before, got)
		}
		checkClosed(t, s, x, api.Vec{3, 1})
	}
	// At a site that has less, and at one that is full.
	less, full := made(t, 1), filled(t)
	s := begun(t, x)
	checkTx(t, commits(t, s, less, 9), api.Tx{})
	checkClosed(t, s, x, api.Vec{3, 1})
	s = begun(t, full)
	checkTx(t, commits(t, s, full, 9), api.Tx{})
	checkClosed(t, s, full, full.Applied())
}

// filled is site 0, which has no room any more.
func filled(t *testing.T) *site.Site {
	t.Helper()
	x := made(t, 0)
	for n := range api.MaxLog {
		_, err := x.Commit(n, api.Vec{}, []api.Write{set(0, "a")})
		checkErr(t, "the site's Commit", err, api.OK)
	}
	return x
}

// 6.2: where the site refuses, it is Open, sees what it saw, and has what it wrote; it may go on, and be committed later.
func TestCommitRefused(t *testing.T) {
	x := holding(t)
	s := begun(t, x)
	writes(t, s, set(4, "c"), unset(0), set(1, "d"))
	for _, now := range []int{math.MinInt, -1, api.MaxTime + 1, math.MaxInt} {
		checkNoCommit(t, s, x, now, api.ErrRange)
	}
	less := made(t, 1)
	checkNoCommit(t, s, less, 9, api.ErrOrder)
	checkNoCommit(t, s, less, -1, api.ErrOrder)
	checkAt(t, s, api.Vec{}, api.Vec{3, 1}, true)
	checkNoRead(t, s, x, 0, api.ErrNone)
	checkRead(t, s, x, 1, "d")
	checkRead(t, s, x, 3, "")
	checkRead(t, s, x, 4, "c")
	checkNoBegin(t, s, x, api.ErrState)

	writes(t, s, set(1, "e"))
	want := api.Tx{Site: 0, Seq: 4, Stamp: api.Stamp{Wall: 9}, Deps: api.Vec{3, 1}, Writes: []api.Write{unset(0), set(1, "e"), set(4, "c")}}
	checkTx(t, commits(t, s, x, 9), want)
	checkClosed(t, s, x, api.Vec{4, 1})
}

// 6.2: a site that is full, and one at its last stamp, refuse; an Abort ends it yet.
func TestCommitAtFull(t *testing.T) {
	last := made(t, 0)
	checkErr(t, "the site's Take", last.Take(api.Tx{Site: 1, Seq: 1, Stamp: api.Stamp{Wall: 5, Count: api.MaxTime}, Writes: []api.Write{set(1, "b")}}), api.OK)
	for _, x := range []*site.Site{filled(t), last} {
		s := begun(t, x)
		writes(t, s, set(3, "c"))
		checkNoCommit(t, s, x, 5, api.ErrFull)
		checkNoCommit(t, s, x, 0, api.ErrFull)
		checkRead(t, s, x, 3, "c")
		checkErr(t, "Abort", s.Abort(), api.OK)
		checkClosed(t, s, x, x.Applied())
		begins(t, s, x)
		checkNoRead(t, s, x, 3, api.ErrNone)
	}
}

// 6.2: in whichever order they were written, they are committed by their keys, rising.
func TestCommitRising(t *testing.T) {
	keys := []int{0, 2, 3, 5, api.MaxKeys - 1}
	var want []api.Write
	for _, key := range keys {
		want = append(want, set(key, fmt.Sprint("v", key)))
	}
	for _, order := range orders(len(keys)) {
		x := made(t, 2)
		s := begun(t, x)
		for _, place := range order {
			writes(t, s, set(keys[place], "first"))
		}
		for _, place := range order {
			writes(t, s, want[place])
		}
		tx := commits(t, s, x, 3)
		checkTx(t, tx, api.Tx{Site: 2, Seq: 1, Stamp: api.Stamp{Wall: 3}, Writes: want})
	}
}

// orders are all orders of the numbers below n.
func orders(n int) [][]int {
	if n == 0 {
		return [][]int{nil}
	}
	var all [][]int
	for _, l := range orders(n - 1) {
		for place := range n {
			all = append(all, slices.Insert(slices.Clone(l), place, n-1))
		}
	}
	return all
}

// 6.2: behind an Abort nothing was written, but what was seen was seen.
func TestAbort(t *testing.T) {
	x := holding(t)
	s := begun(t, x)
	writes(t, s, set(0, "c"), unset(1), set(7, "d"))
	before := shown(session.New(), x)
	checkErr(t, "Abort", s.Abort(), api.OK)
	if got := shown(session.New(), x); got != before {
		t.Errorf("Abort changed the site from %s to %s", before, got)
	}
	checkClosed(t, s, x, api.Vec{3, 1})
	begins(t, s, x)
	checkRead(t, s, x, 0, "a")
	checkRead(t, s, x, 1, "b")
	checkNoRead(t, s, x, 7, api.ErrNone)
	checkErr(t, "Abort", s.Abort(), api.OK)
	checkClosed(t, s, x, api.Vec{3, 1})
}

// 6.1, 6.2: a Begin behind each end, there and at another site: it has no writes, and waits for all that was seen and done.
func TestBeginBehindEach(t *testing.T) {
	cases := []struct {
		name string
		end  func(t *testing.T, s *session.Session, x *site.Site)
		past api.Vec
	}{
		{"a Commit with writes", func(t *testing.T, s *session.Session, x *site.Site) {
			writes(t, s, set(6, "c"))
			commits(t, s, x, 9)
		}, api.Vec{4, 1}},
		{"a Commit without writes", func(t *testing.T, s *session.Session, x *site.Site) {
			commits(t, s, x, 9)
		}, api.Vec{3, 1}},
		{"an Abort with writes", func(t *testing.T, s *session.Session, x *site.Site) {
			writes(t, s, set(6, "c"))
			checkErr(t, "Abort", s.Abort(), api.OK)
		}, api.Vec{3, 1}},
		{"an Abort without writes", func(t *testing.T, s *session.Session, x *site.Site) {
			checkErr(t, "Abort", s.Abort(), api.OK)
		}, api.Vec{3, 1}},
		{"a Commit that was refused, and an Abort", func(t *testing.T, s *session.Session, x *site.Site) {
			writes(t, s, set(6, "c"))
			checkNoCommit(t, s, x, -1, api.ErrRange)
			checkErr(t, "Abort", s.Abort(), api.OK)
		}, api.Vec{3, 1}},
	}
	for _, c := range cases {
		t.Run(c.name, func(t *testing.T) {
			x := holding(t)
			s := begun(t, x)
			c.end(t, s, x)
			checkClosed(t, s, x, c.past)

			other := made(t, 3)
			for _, tx := range x.Missing(api.Vec{}) {
				checkNoBegin(t, s, other, api.ErrOrder)
				checkErr(t, "the site's Take", other.Take(tx), api.OK)
			}
			begins(t, s, other)
			if c.past[0] == 4 {
				checkRead(t, s, other, 6, "c")
			} else {
				checkNoRead(t, s, other, 6, api.ErrNone)
			}
			checkTx(t, commits(t, s, other, 9), api.Tx{})
			begins(t, s, x)
			checkTx(t, commits(t, s, x, 9), api.Tx{})
			checkClosed(t, s, x, c.past)
		})
	}
}

// 6.2: a session that goes from site to site: Past has what it did at each.
func TestFromSiteToSite(t *testing.T) {
	a, b := made(t, 0), made(t, 1)
	s := session.New()
	begins(t, s, a)
	writes(t, s, set(0, "a"))
	first := commits(t, s, a, 5)
	checkErr(t, "the site's Take", b.Take(first), api.OK)
	begins(t, s, b)
	writes(t, s, set(1, "b"))
	second := commits(t, s, b, 3)
	checkTx(t, second, api.Tx{Site: 1, Seq: 1, Stamp: api.Stamp{Wall: 5, Count: 1}, Deps: api.Vec{1}, Writes: []api.Write{set(1, "b")}})
	checkClosed(t, s, b, api.Vec{1, 1})
	checkNoBegin(t, s, a, api.ErrOrder)
	checkErr(t, "the site's Take", a.Take(second), api.OK)
	begins(t, s, a)
	checkAt(t, s, api.Vec{1, 1}, api.Vec{1, 1}, true)
}

// 6.2: at another site that has all that it saw its writes are that site's, and Past has the number there.
func TestCommitElsewhere(t *testing.T) {
	x, other := holding(t), made(t, 2)
	s := begun(t, x)
	writes(t, s, set(6, "c"))
	for _, tx := range x.Missing(api.Vec{}) {
		checkNoCommit(t, s, other, 9, api.ErrOrder)
		checkErr(t, "the site's Take", other.Take(tx), api.OK)
	}
	checkTx(t, commits(t, s, other, 9), api.Tx{Site: 2, Seq: 1, Stamp: api.Stamp{Wall: 9}, Deps: api.Vec{3, 1}, Writes: []api.Write{set(6, "c")}})
	checkClosed(t, s, x, api.Vec{3, 1, 1})
	checkNoBegin(t, s, x, api.ErrOrder)
}

// P4: what was committed is the caller's, and nobody else's.
func TestListsHandedOut(t *testing.T) {
	x := made(t, 0)
	s := begun(t, x)
	writes(t, s, set(1, "a"), set(2, "b"))
	tx := commits(t, s, x, 5)
	clear(tx.Writes[:cap(tx.Writes)])
	if got := x.Missing(api.Vec{})[0].Writes; !slices.Equal(got, []api.Write{set(1, "a"), set(2, "b")}) {
		t.Errorf("the site has %v", got)
	}
	begins(t, s, x)
	writes(t, s, set(3, "c"))
	checkTx(t, commits(t, s, x, 6), api.Tx{Site: 0, Seq: 2, Stamp: api.Stamp{Wall: 6}, Deps: api.Vec{1}, Writes: []api.Write{set(3, "c")}})
}
