package session_test

import (
	"fmt"
	"math"
	"strings"
	"testing"

	"copse/api"
	"copse/plain"
	"copse/session"
	"copse/site"
)

// made is a site that has nothing.
func made(t *testing.T, id int) *site.Site {
	t.Helper()
	x, err := site.New(id)
	if err != nil || x == nil {
		t.Fatalf("site.New(%d) = %v, %v", id, x, err)
	}
	return x
}

// holding is site 0, which has key 0 as a, key 1 as b, key 2 gone, and key 3 as an empty text, by three transactions of its own and one of site 1.
func holding(t *testing.T) *site.Site {
	t.Helper()
	x := made(t, 0)
	for _, l := range [][]api.Write{{set(0, "a"), set(2, "x")}, {unset(2)}, {set(3, "")}} {
		_, err := x.Commit(5, api.Vec{}, l)
		checkErr(t, fmt.Sprint("the site's Commit ", l), err, api.OK)
	}
	checkErr(t, "the site's Take", x.Take(api.Tx{Site: 1, Seq: 1, Writes: []api.Write{set(1, "b")}}), api.OK)
	return x
}

// begun is a session with a transaction at a site.
func begun(t *testing.T, x *site.Site) *session.Session {
	t.Helper()
	s := session.New()
	begins(t, s, x)
	return s
}

// set is a write of a key; unset is one that is Gone.
func set(key int, data string) api.Write { return api.Write{Key: key, Data: data} }

func unset(key int) api.Write { return api.Write{Key: key, Gone: true} }

// begins: it may begin there, and sees all that is there.
func begins(t *testing.T, s *session.Session, x *site.Site) {
	t.Helper()
	past := s.Past()
	checkErr(t, "Begin", s.Begin(x), api.OK)
	checkAt(t, s, past, x.Applied(), true)
}

func writes(t *testing.T, s *session.Session, l ...api.Write) {
	t.Helper()
	for _, w := range l {
		checkErr(t, fmt.Sprint("Write ", w), s.Write(w), api.OK)
	}
}

func commits(t *testing.T, s *session.Session, x *site.Site, now int) api.Tx {
	t.Helper()
	tx, err := s.Commit(x, now)
	checkErr(t, fmt.Sprint("Commit at ", now), err, api.OK)
	return tx
}

// checkErr holds an error against what is wanted; it has no place (P3).
func checkErr(t *testing.T, what string, err error, want api.Errno) {
	t.Helper()
	if got, bare := plain.Bare(err); got != want || !bare {
		t.Errorf("%s: error %d (bare: %v), want %d", what, got, bare, want)
	}
}

func checkTx(t *testing.T, got, want api.Tx) {
	t.Helper()
	if !plain.Same(got, want) {
		t.Errorf("got %v, want %v", got, want)
	}
}

// checkAt: that is what it tells of itself.
func checkAt(t *testing.T, s *session.Session, past, snap api.Vec, open bool) {
	t.Helper()
	if got := s.Past(); got != past {
		t.Errorf("Past() = %v, want %v", got, past)
	}
	if got := s.Snap(); got != snap {
		t.Errorf("Snap() = %v, want %v", got, snap)
	}
	if got := s.Open(); got != open {
		t.Errorf("Open() = %v, want %v", got, open)
	}
}

func checkRead(t *testing.T, s *session.Session, x *site.Site, key int, want string) {
	t.Helper()
	if got, err := s.Read(x, key); err != nil || got != want {
		t.Errorf("Read(%d) = %q, %v, want %q", key, got, err, want)
	}
}

// checkNoRead: there is an error, and nothing beside it (P2).
func checkNoRead(t *testing.T, s *session.Session, x *site.Site, key int, want api.Errno) {
	t.Helper()
	got, err := s.Read(x, key)
	checkErr(t, fmt.Sprint("Read of ", key), err, want)
	if got != "" {
		t.Errorf("Read(%d) = %q beside an error", key, got)
	}
}

// shown is all that a session and a site tell of themselves without being changed.
func shown(s *session.Session, x *site.Site) string {
	l := []string{fmt.Sprint(s.Past(), s.Snap(), s.Open())}
	for key := -1; key <= api.MaxKeys; key++ {
		l = append(l, fmt.Sprint(s.Read(x, key)))
	}
	l = append(l, fmt.Sprint(x.Applied(), x.Waits(), x.Many(), x.Missing(api.Vec{})))
	return strings.Join(append(l, x.All()...), "|")
}

// checkNot: what is done tells that error, and changes nothing (P2).
func checkNot(t *testing.T, s *session.Session, x *site.Site, what string, done func() error, want api.Errno) {
	t.Helper()
	before := shown(s, x)
	checkErr(t, what, done(), want)
	if got := shown(s, x); got != before {
		t.Errorf("%s changed %s to %s", what, before, got)
	}
}

func checkNoBegin(t *testing.T, s *session.Session, x *site.Site, want api.Errno) {
	t.Helper()
	checkNot(t, s, x, "Begin", func() error { return s.Begin(x) }, want)
}

func checkNoWrite(t *testing.T, s *session.Session, x *site.Site, w api.Write, want api.Errno) {
	t.Helper()
	checkNot(t, s, x, fmt.Sprint("Write ", w), func() error { return s.Write(w) }, want)
}

func checkNoCommit(t *testing.T, s *session.Session, x *site.Site, now int, want api.Errno) {
	t.Helper()
	checkNot(t, s, x, fmt.Sprint("Commit at ", now), func() error {
		tx, err := s.Commit(x, now)
		checkTx(t, tx, api.Tx{})
		return err
	}, want)
}

func checkNoAbort(t *testing.T, s *session.Session, x *site.Site) {
	t.Helper()
	checkNot(t, s, x, "Abort", s.Abort, api.ErrState)
}

// checkClosed: nothing may be done but Begin, whatever else is wrong.
func checkClosed(t *testing.T, s *session.Session, x *site.Site, past api.Vec) {
	t.Helper()
	checkAt(t, s, past, api.Vec{}, false)
	for _, key := range []int{-1, 0, 1, 2, api.MaxKeys - 1, api.MaxKeys} {
		checkNoRead(t, s, x, key, api.ErrState)
		checkNoWrite(t, s, x, set(key, "a"), api.ErrState)
		checkNoWrite(t, s, x, set(key, strings.Repeat("x", api.MaxData+1)), api.ErrState)
		checkNoWrite(t, s, x, api.Write{Key: key, Data: "a", Gone: true}, api.ErrState)
	}
	for _, now := range []int{-1, 0, 9} {
		checkNoCommit(t, s, x, now, api.ErrState)
	}
	checkNoAbort(t, s, x)
	checkAt(t, s, past, api.Vec{}, false)
}

// 6.1: a new session has seen nothing; none is Open, so that there is nothing to read, to write or to end.
func TestNew(t *testing.T) {
	checkClosed(t, session.New(), made(t, 0), api.Vec{})
	checkClosed(t, session.New(), holding(t), api.Vec{})
}

// 6.1: sessions have nothing of each other.
func TestSessionsAreApart(t *testing.T) {
	x := holding(t)
	a, b, c := begun(t, x), begun(t, x), session.New()
	writes(t, a, set(0, "mine"))
	checkRead(t, a, x, 0, "mine")
	checkRead(t, b, x, 0, "a")
	checkErr(t, "Abort", a.Abort(), api.OK)
	checkAt(t, b, api.Vec{}, x.Applied(), true)
	checkRead(t, b, x, 0, "a")
	checkAt(t, c, api.Vec{}, api.Vec{}, false)
}

// 6.1: Snap is what the site applied when it began, and stays that, whatever is applied there later.
func TestBegin(t *testing.T) {
	x := made(t, 0)
	begun(t, x)
	x = holding(t)
	s := begun(t, x)
	checkAt(t, s, api.Vec{}, api.Vec{3, 1}, true)
	_, err := x.Commit(9, api.Vec{}, []api.Write{set(0, "later"), unset(1), set(4, "new")})
	checkErr(t, "the site's Commit", err, api.OK)
	checkAt(t, s, api.Vec{}, api.Vec{3, 1}, true)
	checkRead(t, s, x, 0, "a")
	checkRead(t, s, x, 1, "b")
	checkNoRead(t, s, x, 4, api.ErrNone)
	other := begun(t, x)
	checkRead(t, other, x, 0, "later")
	checkNoRead(t, other, x, 1, api.ErrNone)
	checkRead(t, other, x, 4, "new")
}

// 6.1: Begin while one is Open, there, at a site that has more, and at one that has less; the one that is Open goes on.
func TestBeginWhileOpen(t *testing.T) {
	x, less := holding(t), made(t, 1)
	s := begun(t, x)
	writes(t, s, set(0, "mine"), unset(1))
	checkErr(t, "the site's Take", x.Take(api.Tx{Site: 2, Seq: 1, Writes: []api.Write{set(5, "c")}}), api.OK)
	checkNoBegin(t, s, x, api.ErrState)
	checkNoBegin(t, s, less, api.ErrState)
	checkAt(t, s, api.Vec{}, api.Vec{3, 1}, true)
	checkRead(t, s, x, 0, "mine")
	checkNoRead(t, s, x, 1, api.ErrNone)

	// That one is Open is told ahead of what the site has not.
	commits(t, s, x, 9)
	checkNoBegin(t, s, less, api.ErrOrder)
	begins(t, s, x)
	checkNoBegin(t, s, less, api.ErrState)
}

// 6.1: Begin at a site that has not all of Past: of the site where it was, of another one, of one of both; what is there has no part in it.
func TestBeginBehind(t *testing.T) {
	x := holding(t)
	s := begun(t, x)
	checkErr(t, "Abort", s.Abort(), api.OK)
	checkAt(t, s, api.Vec{3, 1}, api.Vec{}, false)
	log := x.Missing(api.Vec{})
	of1 := log[3]

	other := made(t, 2)
	checkNoBegin(t, s, other, api.ErrOrder)
	checkErr(t, "the site's Take", other.Take(log[0]), api.OK)
	checkErr(t, "the site's Take", other.Take(log[1]), api.OK)
	checkErr(t, "the site's Take", other.Take(of1), api.OK)
	checkNoBegin(t, s, other, api.ErrOrder)
	checkClosed(t, s, other, api.Vec{3, 1})
	_, err := other.Commit(9, api.Vec{}, []api.Write{set(0, "more")})
	checkErr(t, "the site's Commit", err, api.OK)
	checkNoBegin(t, s, other, api.ErrOrder)
	checkErr(t, "the site's Take", other.Take(log[2]), api.OK)
	begins(t, s, other)
	checkAt(t, s, api.Vec{3, 1}, api.Vec{3, 1, 1}, true)
	checkRead(t, s, other, 0, "more")

	// What waits there did not come yet.
	waits := made(t, 3)
	late := session.New()
	begins(t, late, x)
	checkErr(t, "Abort", late.Abort(), api.OK)
	for _, i := range []int{2, 1, 3} {
		checkErr(t, "the site's Take", waits.Take(log[i]), api.OK)
		checkNoBegin(t, late, waits, api.ErrOrder)
	}
	checkErr(t, "the site's Take", waits.Take(log[0]), api.OK)
	begins(t, late, waits)
	checkAt(t, late, api.Vec{3, 1}, api.Vec{3, 1}, true)
}

// 6.1: a new one may begin anywhere: it has no Past.
func TestBeginOfNew(t *testing.T) {
	for id := range api.MaxSites {
		begun(t, made(t, id))
	}
}

// 6.1: of a key that was written what was written last; else what is there, at Snap.
func TestRead(t *testing.T) {
	x := holding(t)
	cases := []struct {
		name string
		l    []api.Write
		key  int
		want string
		err  api.Errno
	}{
		{"not written", nil, 0, "a", api.OK},
		{"not written, by another site", nil, 1, "b", api.OK},
		{"not written, gone there", nil, 2, "", api.ErrNone},
		{"not written, an empty text", nil, 3, "", api.OK},
		{"not written, none there", nil, 7, "", api.ErrNone},
		{"others were written", []api.Write{set(1, "c"), unset(2), set(3, "d")}, 0, "a", api.OK},
		{"written", []api.Write{set(0, "c")}, 0, "c", api.OK},
		{"written as it was", []api.Write{set(0, "a")}, 0, "a", api.OK},
		{"written, an empty text", []api.Write{set(0, "")}, 0, "", api.OK},
		{"written, gone there", []api.Write{set(2, "c")}, 2, "c", api.OK},
		{"written, none there", []api.Write{set(7, "c")}, 7, "c", api.OK},
		{"written twice", []api.Write{set(0, "c"), set(0, "d")}, 0, "d", api.OK},
		{"written twice, others between", []api.Write{set(0, "d"), set(1, "e"), set(0, "c"), set(3, "f")}, 0, "c", api.OK},
		{"written Gone", []api.Write{unset(0)}, 0, "", api.ErrNone},
		{"written Gone, none there", []api.Write{unset(7)}, 7, "", api.ErrNone},
		{"written, then Gone", []api.Write{set(0, "c"), unset(0)}, 0, "", api.ErrNone},
		{"written Gone, then again", []api.Write{unset(0), set(0, "c")}, 0, "c", api.OK},
		{"a key below 0", nil, -1, "", api.ErrRange},
		{"a key that is far below 0", nil, math.MinInt, "", api.ErrRange},
		{"a key of MaxKeys", nil, api.MaxKeys, "", api.ErrRange},
		{"a key that is far above", []api.Write{set(0, "c")}, math.MaxInt, "", api.ErrRange},
	}
	for _, c := range cases {
		t.Run(c.name, func(t *testing.T) {
			s := begun(t, x)
			writes(t, s, c.l...)
			for range 2 {
				if c.err == api.OK {
					checkRead(t, s, x, c.key, c.want)
				} else {
					checkNoRead(t, s, x, c.key, c.err)
				}
			}
			checkAt(t, s, api.Vec{}, x.Applied(), true)
		})
	}
}

// 6.1: Read at a site that has not all of Snap: its error, also ahead of a key that is none; of what was written it is not asked.
func TestReadElsewhere(t *testing.T) {
	x, less := holding(t), made(t, 1)
	s := begun(t, x)
	writes(t, s, set(0, "c"), unset(1))
	checkRead(t, s, less, 0, "c")
	checkNoRead(t, s, less, 1, api.ErrNone)
	for _, key := range []int{-1, 2, 3, 7, api.MaxKeys} {
		checkNoRead(t, s, less, key, api.ErrOrder)
	}
	checkRead(t, s, x, 3, "")
}

// 6.1: writes are seen by nobody but who wrote them, until they are committed.
func TestWriteIsNotSeen(t *testing.T) {
	x := holding(t)
	before := shown(session.New(), x)
	s, other := begun(t, x), begun(t, x)
	writes(t, s, set(0, "mine"), unset(1))
	if got := shown(session.New(), x); got != before {
		t.Errorf("Write changed the site from %s to %s", before, got)
	}
	checkRead(t, other, x, 0, "a")
	checkRead(t, other, x, 1, "b")
}

// 6.1: keys and texts at the bounds, and beyond.
func TestWriteAtTheBounds(t *testing.T) {
	x := holding(t)
	long := strings.Repeat("x", api.MaxData)
	wide := strings.Repeat("\u00e9", api.MaxData/2)
	s := begun(t, x)
	writes(t, s, set(0, long), set(api.MaxKeys-1, wide), set(1, "\x00\xff\n"))
	checkRead(t, s, x, 0, long)
	checkRead(t, s, x, api.MaxKeys-1, wide)
	checkRead(t, s, x, 1, "\x00\xff\n")
	for _, key := range []int{math.MinInt, -1, api.MaxKeys, math.MaxInt} {
		checkNoWrite(t, s, x, set(key, "a"), api.ErrRange)
		checkNoWrite(t, s, x, unset(key), api.ErrRange)
		checkNoWrite(t, s, x, set(key, long+"x"), api.ErrRange)
		checkNoWrite(t, s, x, api.Write{Key: key, Data: "a", Gone: true}, api.ErrRange)
	}
	for _, key := range []int{0, 2, api.MaxKeys - 1} {
		checkNoWrite(t, s, x, set(key, long+"x"), api.ErrLimit)
		checkNoWrite(t, s, x, set(key, wide+"x"), api.ErrLimit)
		checkNoWrite(t, s, x, set(key, strings.Repeat("x", 9*api.MaxText)), api.ErrLimit)
		checkNoWrite(t, s, x, api.Write{Key: key, Data: long + "x", Gone: true}, api.ErrLimit)
		checkNoWrite(t, s, x, api.Write{Key: key, Data: "a", Gone: true}, api.ErrArg)
		checkNoWrite(t, s, x, api.Write{Key: key, Data: long, Gone: true}, api.ErrArg)
	}
}

// 6.1: MaxWrites keys are written; one more is not, whatever it is to be; each of these may be written again.
func TestMaxWrites(t *testing.T) {
	x := holding(t)
	s := begun(t, x)
	for key := range api.MaxWrites {
		writes(t, s, set(key, "c"), set(key, "d"), unset(key))
	}
	long := strings.Repeat("x", api.MaxData+1)
	for key := api.MaxWrites; key < api.MaxKeys; key++ {
		checkNoWrite(t, s, x, set(key, "e"), api.ErrFull)
		checkNoWrite(t, s, x, unset(key), api.ErrFull)
		checkNoWrite(t, s, x, set(key, long), api.ErrLimit)
		checkNoWrite(t, s, x, api.Write{Key: key, Data: "a", Gone: true}, api.ErrArg)
	}
	checkNoWrite(t, s, x, set(api.MaxKeys, "e"), api.ErrRange)
	checkNoWrite(t, s, x, set(-1, "e"), api.ErrRange)
	for key := range api.MaxWrites {
		writes(t, s, set(key, fmt.Sprint(key)))
		checkRead(t, s, x, key, fmt.Sprint(key))
	}
	want := []api.Write{set(0, "0"), set(1, "1"), set(2, "2"), set(3, "3"), set(4, "4")}
	if got := commits(t, s, x, 9).Writes; fmt.Sprint(got) != fmt.Sprint(want) {
		t.Errorf("committed %v, want %v", got, want)
	}
}
