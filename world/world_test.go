package world_test

import (
	"fmt"
	"math"
	"slices"
	"strings"
	"testing"

	"copse/api"
	"copse/plain"
	"copse/world"
)

// made is a world that has nothing yet.
func made(t *testing.T, sites, clients int) *world.World {
	t.Helper()
	w, err := world.New(sites, clients)
	if err != nil || w == nil {
		t.Fatalf("New(%d, %d) = %v, %v", sites, clients, w, err)
	}
	return w
}

// spread is a world with a client a site, client k at site k.
func spread(t *testing.T, sites int) *world.World {
	t.Helper()
	w := made(t, sites, sites)
	for k := range sites {
		ok(t, "Move", w.Move(k, k))
	}
	return w
}

// set is a write of a key; unset is one that is Gone.
func set(key int, data string) api.Write { return api.Write{Key: key, Data: data} }

func unset(key int) api.Write { return api.Write{Key: key, Gone: true} }

// checkErr holds an error against what is wanted; it has no place (P3).
func checkErr(t *testing.T, what string, err error, want api.Errno) {
	t.Helper()
	if got, bare := plain.Bare(err); got != want || !bare {
		t.Errorf("%s: error %d (bare: %v), want %d", what, got, bare, want)
	}
}

func ok(t *testing.T, what string, err error) {
	t.Helper()
	checkErr(t, what, err, api.OK)
}

func checkTx(t *testing.T, got, want api.Tx) {
	t.Helper()
	if !plain.Same(got, want) {
		t.Errorf("got %v, want %v", got, want)
	}
}

// opens lets a client begin, and write.
func opens(t *testing.T, w *world.World, k int, l ...api.Write) {
	t.Helper()
	ok(t, fmt.Sprint("Begin of ", k), w.Begin(k))
	for _, x := range l {
		ok(t, fmt.Sprint("Write ", x), w.Write(k, x))
	}
}

func commits(t *testing.T, w *world.World, k int) api.Tx {
	t.Helper()
	x, err := w.Commit(k)
	ok(t, fmt.Sprint("Commit of ", k), err)
	return x
}

// puts is a client's transaction, from its beginning to its end.
func puts(t *testing.T, w *world.World, k int, l ...api.Write) api.Tx {
	t.Helper()
	opens(t, w, k, l...)
	return commits(t, w, k)
}

// brings delivers, one behind the other, what is at these places then.
func brings(t *testing.T, w *world.World, l ...int) {
	t.Helper()
	for _, i := range l {
		ok(t, fmt.Sprint("Deliver of ", i), w.Deliver(i))
	}
}

// loses loses all that is under way.
func loses(t *testing.T, w *world.World) {
	t.Helper()
	for range w.Many() {
		ok(t, "Lose", w.Lose(0))
	}
}

// checkSite: that is what is at a site; texts of keys behind those that are told are empty.
func checkSite(t *testing.T, w *world.World, k int, applied api.Vec, waits, many int, texts ...string) {
	t.Helper()
	for len(texts) < api.MaxKeys {
		texts = append(texts, "")
	}
	gotApplied, gotWaits, all, gotMany, err := w.Site(k)
	ok(t, fmt.Sprint("Site of ", k), err)
	if gotApplied != applied || gotWaits != waits || gotMany != many || !slices.Equal(all, texts) {
		t.Errorf("Site(%d) = %v, %d, %q, %d, want %v, %d, %q, %d", k, gotApplied, gotWaits, all, gotMany, applied, waits, texts, many)
	}
}

// checkApplied: a site has so much, and nothing waits.
func checkApplied(t *testing.T, w *world.World, k int, want api.Vec) {
	t.Helper()
	applied, waits, _, _, err := w.Site(k)
	ok(t, fmt.Sprint("Site of ", k), err)
	if applied != want || waits != 0 {
		t.Errorf("site %d has %v, and %d wait, want %v, and none", k, applied, waits, want)
	}
}

func checkVersions(t *testing.T, w *world.World, k, want int) {
	t.Helper()
	if _, _, _, many, err := w.Site(k); err != nil || many != want {
		t.Errorf("site %d has %d versions, %v, want %d", k, many, err, want)
	}
}

func checkClient(t *testing.T, w *world.World, k, at int, past, snap api.Vec, open bool) {
	t.Helper()
	gotAt, gotPast, gotSnap, gotOpen, err := w.Client(k)
	ok(t, fmt.Sprint("Client of ", k), err)
	if gotAt != at || gotPast != past || gotSnap != snap || gotOpen != open {
		t.Errorf("Client(%d) = %d, %v, %v, %v, want %d, %v, %v, %v", k, gotAt, gotPast, gotSnap, gotOpen, at, past, snap, open)
	}
}

func checkNet(t *testing.T, w *world.World, many, lost int) {
	t.Helper()
	if w.Many() != many || w.Lost() != lost {
		t.Errorf("%d are under way, %d were lost, want %d, %d", w.Many(), w.Lost(), many, lost)
	}
}

func checkRead(t *testing.T, w *world.World, k, key int, want string) {
	t.Helper()
	if got, err := w.Read(k, key); err != nil || got != want {
		t.Errorf("Read(%d, %d) = %q, %v, want %q", k, key, got, err, want)
	}
}

// checkNoRead: there is an error, and nothing beside it (P2).
func checkNoRead(t *testing.T, w *world.World, k, key int, want api.Errno) {
	t.Helper()
	got, err := w.Read(k, key)
	checkErr(t, fmt.Sprint("Read of ", k, " ", key), err, want)
	if got != "" {
		t.Errorf("Read(%d, %d) = %q beside an error", k, key, got)
	}
}

// shown is all that a world tells of itself without being changed.
func shown(w *world.World) string {
	l := []string{fmt.Sprint(w.Many(), w.Lost())}
	for k := range api.MaxSites {
		applied, waits, all, many, err := w.Site(k)
		l = append(l, fmt.Sprintf("%v %d %q %d %v", applied, waits, all, many, err))
	}
	for k := range api.MaxClients {
		l = append(l, fmt.Sprintln(w.Client(k)))
		for key := range api.MaxKeys {
			l = append(l, fmt.Sprintln(w.Read(k, key)))
		}
	}
	return strings.Join(l, "|")
}

// checkNot: what is done tells that error, and changes nothing (P2).
func checkNot(t *testing.T, w *world.World, what string, done func() error, want api.Errno) {
	t.Helper()
	before := shown(w)
	checkErr(t, what, done(), want)
	if got := shown(w); got != before {
		t.Errorf("%s changed %s to %s", what, before, got)
	}
}

func checkNoCommit(t *testing.T, w *world.World, k int, want api.Errno) {
	t.Helper()
	checkNot(t, w, fmt.Sprint("Commit of ", k), func() error {
		x, err := w.Commit(k)
		checkTx(t, x, api.Tx{})
		return err
	}, want)
}

// 7.1: from 1 to MaxSites sites, and 0 to MaxClients clients; beside an error there is no world.
func TestNew(t *testing.T) {
	for _, sites := range []int{math.MinInt, -1, 0, 1, 2, api.MaxSites, api.MaxSites + 1, math.MaxInt} {
		for _, clients := range []int{math.MinInt, -1, 0, 1, api.MaxClients, api.MaxClients + 1, math.MaxInt} {
			w, err := world.New(sites, clients)
			if sites >= 1 && sites <= 4 && clients >= 0 && clients <= 6 {
				ok(t, fmt.Sprint("New ", sites, clients), err)
				checkNew(t, w, sites, clients)
				continue
			}
			checkErr(t, fmt.Sprint("New ", sites, clients), err, api.ErrRange)
			if w != nil {
				t.Errorf("New(%d, %d) = %v beside an error", sites, clients, w)
			}
		}
	}
}

// checkNew: nothing is anywhere, nobody saw anything, and all are at the first site.
func checkNew(t *testing.T, w *world.World, sites, clients int) {
	t.Helper()
	checkNet(t, w, 0, 0)
	for k := range sites {
		checkSite(t, w, k, api.Vec{}, 0, 0)
	}
	for k := range clients {
		checkClient(t, w, k, 0, api.Vec{}, api.Vec{}, false)
	}
	checkNoSite(t, w, sites)
	checkNoClient(t, w, clients)
}

// checkNoSite, checkNoClient: nothing is told beside the error (P2).
func checkNoSite(t *testing.T, w *world.World, k int) {
	t.Helper()
	applied, waits, all, many, err := w.Site(k)
	checkErr(t, fmt.Sprint("Site of ", k), err, api.ErrRange)
	if applied != (api.Vec{}) || waits != 0 || len(all) != 0 || many != 0 {
		t.Errorf("Site(%d) = %v, %d, %q, %d beside an error", k, applied, waits, all, many)
	}
}

func checkNoClient(t *testing.T, w *world.World, k int) {
	t.Helper()
	at, past, snap, open, err := w.Client(k)
	checkErr(t, fmt.Sprint("Client of ", k), err, api.ErrRange)
	if at != 0 || past != (api.Vec{}) || snap != (api.Vec{}) || open {
		t.Errorf("Client(%d) = %d, %v, %v, %v beside an error", k, at, past, snap, open)
	}
}

// 7.1: worlds have nothing of each other.
func TestWorldsAreApart(t *testing.T) {
	a, b := made(t, 2, 2), made(t, 2, 2)
	ok(t, "Goes", a.Goes(0, 7))
	puts(t, a, 0, set(0, "a"))
	ok(t, "Move", a.Move(1, 1))
	opens(t, a, 1, set(1, "b"))
	checkNew(t, b, 2, 2)
	checkTx(t, puts(t, b, 0, set(0, "c")), api.Tx{Site: 0, Seq: 1, Stamp: api.Stamp{Count: 1}, Writes: []api.Write{set(0, "c")}})
}

// busy is a world of two sites and three clients: the first two have a transaction open, the third is elsewhere; three are under way.
func busy(t *testing.T) *world.World {
	t.Helper()
	w := made(t, 2, 3)
	ok(t, "Move", w.Move(2, 1))
	puts(t, w, 0, set(0, "a"))
	puts(t, w, 1, set(1, "b"))
	puts(t, w, 2, set(2, "c"))
	opens(t, w, 0, set(3, "d"))
	opens(t, w, 1)
	return w
}

// 7.1, 7.3: a client that is none, below 0 and behind the last; that is told ahead of all else that is wrong.
func TestNoSuchClient(t *testing.T) {
	w := busy(t)
	for _, k := range []int{math.MinInt, -1, 3, api.MaxClients, math.MaxInt} {
		checkNot(t, w, "Begin", func() error { return w.Begin(k) }, api.ErrRange)
		checkNoRead(t, w, k, 0, api.ErrRange)
		checkNoRead(t, w, k, -1, api.ErrRange)
		checkNot(t, w, "Write", func() error { return w.Write(k, set(0, "e")) }, api.ErrRange)
		checkNot(t, w, "Write", func() error { return w.Write(k, set(0, strings.Repeat("x", api.MaxData+1))) }, api.ErrRange)
		checkNot(t, w, "Write", func() error { return w.Write(k, api.Write{Data: "x", Gone: true}) }, api.ErrRange)
		checkNoCommit(t, w, k, api.ErrRange)
		checkNot(t, w, "Abort", func() error { return w.Abort(k) }, api.ErrRange)
		for _, to := range []int{-1, 0, 1, 2} {
			checkNot(t, w, "Move", func() error { return w.Move(k, to) }, api.ErrRange)
		}
		checkNoClient(t, w, k)
	}
	none := made(t, 1, 0)
	checkNot(t, none, "Begin", func() error { return none.Begin(0) }, api.ErrRange)
	checkNoCommit(t, none, 0, api.ErrRange)
	checkNoClient(t, none, 0)
}

// 7.1 to 7.3: a site that is none, below 0 and behind the last.
func TestNoSuchSite(t *testing.T) {
	w := busy(t)
	for _, k := range []int{math.MinInt, -1, 2, api.MaxSites - 1, api.MaxSites, math.MaxInt} {
		checkNot(t, w, "Move of one that is open", func() error { return w.Move(0, k) }, api.ErrRange)
		checkNot(t, w, "Move", func() error { return w.Move(2, k) }, api.ErrRange)
		checkNot(t, w, "Goes", func() error { return w.Goes(k, 1) }, api.ErrRange)
		checkNot(t, w, "Goes", func() error { return w.Goes(k, -1) }, api.ErrRange)
		checkNot(t, w, "Ask by", func() error { return w.Ask(k, 0) }, api.ErrRange)
		checkNot(t, w, "Ask of", func() error { return w.Ask(0, k) }, api.ErrRange)
		checkNot(t, w, "Ask by and of", func() error { return w.Ask(k, k) }, api.ErrRange)
		checkNot(t, w, "Sweep", func() error { return w.Sweep(k) }, api.ErrRange)
		checkNoSite(t, w, k)
	}
}

// 7.2: an index that is none: of nothing, of some, and of just as many as are under way.
func TestNoSuchDatagram(t *testing.T) {
	for _, w := range []*world.World{made(t, 1, 0), made(t, 2, 2), busy(t)} {
		many := w.Many()
		for _, i := range []int{math.MinInt, -1, many, many + 1, api.MaxNet, math.MaxInt} {
			checkNot(t, w, "Deliver", func() error { return w.Deliver(i) }, api.ErrRange)
			checkNot(t, w, "Lose", func() error { return w.Lose(i) }, api.ErrRange)
			checkNot(t, w, "Twice", func() error { return w.Twice(i) }, api.ErrRange)
		}
	}
}

// Example 7 of the document: what one commits at a site another one reads at another one, when it came there.
func TestCommitOfTheDocument(t *testing.T) {
	w := spread(t, 2)
	opens(t, w, 1)
	puts(t, w, 0, set(2, "a"))
	checkNoRead(t, w, 1, 2, api.ErrNone)
	brings(t, w, 0)
	// It came behind what the other one sees; its next one sees it.
	checkNoRead(t, w, 1, 2, api.ErrNone)
	ok(t, "Abort", w.Abort(1))
	opens(t, w, 1)
	checkRead(t, w, 1, 2, "a")
}

// 7.1: a client's session, at its site, as its wall shows; each one's is its own.
func TestClients(t *testing.T) {
	w := made(t, 2, 3)
	ok(t, "Move", w.Move(2, 1))
	ok(t, "Goes", w.Goes(0, 5))
	opens(t, w, 0, set(0, "a"), set(1, "b"), unset(2))
	checkRead(t, w, 0, 0, "a")
	checkNoRead(t, w, 0, 2, api.ErrNone)
	checkNoRead(t, w, 1, 0, api.ErrState)
	checkTx(t, commits(t, w, 0), api.Tx{Site: 0, Seq: 1, Stamp: api.Stamp{Wall: 5}, Writes: []api.Write{set(0, "a"), set(1, "b"), unset(2)}})
	checkClient(t, w, 0, 0, api.Vec{1}, api.Vec{}, false)
	checkSite(t, w, 0, api.Vec{1}, 0, 3, "=a", "=b")
	checkSite(t, w, 1, api.Vec{}, 0, 0)

	opens(t, w, 1)
	checkClient(t, w, 1, 0, api.Vec{}, api.Vec{1}, true)
	checkRead(t, w, 1, 0, "a")
	opens(t, w, 2)
	checkClient(t, w, 2, 1, api.Vec{}, api.Vec{}, true)
	checkNoRead(t, w, 2, 0, api.ErrNone)
	checkRead(t, w, 1, 1, "b")
	ok(t, "Abort", w.Abort(1))
	checkClient(t, w, 1, 0, api.Vec{1}, api.Vec{}, false)
	checkClient(t, w, 2, 1, api.Vec{}, api.Vec{}, true)
	checkNet(t, w, 1, 0)
}

// 7.1: the session's errors are told, and change nothing.
func TestSessionErrors(t *testing.T) {
	w := busy(t)
	checkNot(t, w, "Begin of one that is open", func() error { return w.Begin(0) }, api.ErrState)
	checkNoRead(t, w, 0, -1, api.ErrRange)
	checkNoRead(t, w, 0, api.MaxKeys, api.ErrRange)
	checkNoRead(t, w, 0, 7, api.ErrNone)
	checkNoRead(t, w, 2, 0, api.ErrState)
	for _, c := range []struct {
		k    int
		l    api.Write
		want api.Errno
	}{
		{2, set(0, "a"), api.ErrState},
		{0, set(-1, "a"), api.ErrRange},
		{0, set(api.MaxKeys, "a"), api.ErrRange},
		{0, set(0, strings.Repeat("x", api.MaxData+1)), api.ErrLimit},
		{0, api.Write{Data: "x", Gone: true}, api.ErrArg},
	} {
		checkNot(t, w, fmt.Sprint("Write ", c), func() error { return w.Write(c.k, c.l) }, c.want)
	}
	for key := range api.MaxWrites {
		ok(t, "Write", w.Write(1, set(key, "e")))
	}
	checkNot(t, w, "one Write more", func() error { return w.Write(1, set(7, "e")) }, api.ErrFull)
	checkNoCommit(t, w, 2, api.ErrState)
	checkNot(t, w, "Abort", func() error { return w.Abort(2) }, api.ErrState)
	ok(t, "Abort", w.Abort(0))
	ok(t, "Move", w.Move(0, 1))
	checkNot(t, w, "Begin behind", func() error { return w.Begin(0) }, api.ErrOrder)
}

// 7.1: what Commit tells is sent to each other site, in order, wherever it was committed.
func TestCommitSends(t *testing.T) {
	for sites := 1; sites <= api.MaxSites; sites++ {
		for from := range sites {
			w := spread(t, sites)
			x := puts(t, w, from, set(from, "a"))
			checkNet(t, w, sites-1, 0)
			var has api.Vec
			has[from] = 1
			checkApplied(t, w, from, has)
			if x.Site != from || x.Seq != 1 {
				t.Errorf("committed %v at %d", x, from)
			}
			for to := range sites {
				if to == from {
					continue
				}
				checkApplied(t, w, to, api.Vec{})
				brings(t, w, 0)
				checkApplied(t, w, to, has)
			}
			checkNet(t, w, 0, 0)
		}
	}
}

// 7.1: a Commit without writes tells nothing, and sends nothing, even where there is no room for one.
func TestCommitWithoutWrites(t *testing.T) {
	w := spread(t, 3)
	puts(t, w, 0, set(0, "a"))
	opens(t, w, 0)
	checkTx(t, commits(t, w, 0), api.Tx{})
	checkNet(t, w, 2, 0)
	checkClient(t, w, 0, 0, api.Vec{1}, api.Vec{}, false)
	checkApplied(t, w, 0, api.Vec{1})

	full := filled(t, 1)
	opens(t, full, 0)
	checkTx(t, commits(t, full, 0), api.Tx{})
	checkClient(t, full, 0, 0, api.Vec{api.MaxLog}, api.Vec{}, false)
}

// filled is a world whose first site applied MaxLog, all of its own; its client did that, and nothing is under way.
func filled(t *testing.T, sites int) *world.World {
	t.Helper()
	w := spread(t, sites)
	for range api.MaxLog {
		puts(t, w, 0, set(0, "a"))
		loses(t, w)
	}
	return w
}

// 7.1: a Commit that is refused sends nothing; the transaction stays open, and may be aborted.
func TestCommitRefused(t *testing.T) {
	w := filled(t, 3)
	opens(t, w, 0, set(0, "b"), set(1, "c"))
	checkNoCommit(t, w, 0, api.ErrFull)
	checkNet(t, w, 0, 0)
	checkClient(t, w, 0, 0, api.Vec{api.MaxLog}, api.Vec{api.MaxLog}, true)
	checkRead(t, w, 0, 1, "c")
	checkNoCommit(t, w, 0, api.ErrFull)
	ok(t, "Abort", w.Abort(0))
	checkSite(t, w, 0, api.Vec{api.MaxLog}, 0, api.MaxLog, "=a")
	checkNoCommit(t, w, 0, api.ErrState)
	checkNet(t, w, 0, 0)

	// Elsewhere there is room.
	puts(t, w, 1, set(1, "d"))
	checkNet(t, w, 2, 0)
	// It comes to the site that has none, which is no error.
	brings(t, w, 0, 0)
	checkSite(t, w, 0, api.Vec{api.MaxLog}, 0, api.MaxLog, "=a")
	checkSite(t, w, 2, api.Vec{0, 1}, 0, 1, "", "=d")
}

// 7.1: a client goes from site to site, and to where it is; all calls are at its site then.
func TestMove(t *testing.T) {
	w := made(t, 3, 2)
	for _, to := range []int{2, 2, 0, 1} {
		ok(t, "Move", w.Move(1, to))
		checkClient(t, w, 1, to, api.Vec{}, api.Vec{}, false)
		checkClient(t, w, 0, 0, api.Vec{}, api.Vec{}, false)
	}
	ok(t, "Goes", w.Goes(1, 4))
	checkTx(t, puts(t, w, 1, set(0, "a")), api.Tx{Site: 1, Seq: 1, Stamp: api.Stamp{Wall: 4}, Writes: []api.Write{set(0, "a")}})

	// It takes its past with it, and begins nowhere that has not all of it.
	ok(t, "Move", w.Move(1, 2))
	checkClient(t, w, 1, 2, api.Vec{0, 1}, api.Vec{}, false)
	checkNot(t, w, "Begin", func() error { return w.Begin(1) }, api.ErrOrder)
	brings(t, w, 1)
	opens(t, w, 1)
	checkRead(t, w, 1, 0, "a")
	ok(t, "Abort", w.Abort(1))
	ok(t, "Move", w.Move(1, 0))
	checkNot(t, w, "Begin", func() error { return w.Begin(1) }, api.ErrOrder)
	ok(t, "Move", w.Move(1, 1))
	opens(t, w, 1)
}

// 7.1: nobody moves while a transaction is open, not even to where it is; others do, and it does behind that.
func TestMoveWhileOpen(t *testing.T) {
	for _, end := range []func(w *world.World) error{
		func(w *world.World) error { return w.Abort(0) },
		func(w *world.World) error { _, err := w.Commit(0); return err },
	} {
		w := made(t, 2, 2)
		opens(t, w, 0, set(0, "a"))
		for _, to := range []int{0, 1} {
			checkNot(t, w, "Move", func() error { return w.Move(0, to) }, api.ErrState)
		}
		for _, to := range []int{-1, 2} {
			checkNot(t, w, "Move", func() error { return w.Move(0, to) }, api.ErrRange)
		}
		ok(t, "Move of another one", w.Move(1, 1))
		ok(t, "its end", end(w))
		ok(t, "Move", w.Move(0, 1))
	}
}

// 7.1: a wall goes on by 0 to MaxTime, to MaxTime at most.
func TestGoes(t *testing.T) {
	cases := []struct {
		by   []int
		want api.Stamp
	}{
		{nil, api.Stamp{Wall: 0, Count: 1}},
		{[]int{0}, api.Stamp{Wall: 0, Count: 1}},
		{[]int{1}, api.Stamp{Wall: 1}},
		{[]int{3, 0, 4}, api.Stamp{Wall: 7}},
		{[]int{api.MaxTime - 1}, api.Stamp{Wall: api.MaxTime - 1}},
		{[]int{api.MaxTime}, api.Stamp{Wall: api.MaxTime}},
		{[]int{api.MaxTime, 0}, api.Stamp{Wall: api.MaxTime}},
		{[]int{api.MaxTime, 1}, api.Stamp{Wall: api.MaxTime}},
		{[]int{1, api.MaxTime}, api.Stamp{Wall: api.MaxTime}},
		{[]int{api.MaxTime, api.MaxTime, api.MaxTime}, api.Stamp{Wall: api.MaxTime}},
	}
	for _, c := range cases {
		w := spread(t, 2)
		for _, by := range c.by {
			ok(t, fmt.Sprint("Goes by ", by), w.Goes(1, by))
		}
		if got := puts(t, w, 1, set(0, "a")).Stamp; got != c.want {
			t.Errorf("by %v: committed at %v, want %v", c.by, got, c.want)
		}
		// The other site's wall shows 0 yet.
		if got := puts(t, w, 0, set(0, "a")).Stamp; got != (api.Stamp{Count: 1}) {
			t.Errorf("by %v: committed elsewhere at %v", c.by, got)
		}
	}
}

// 7.1: by less than 0, or more than MaxTime: the wall stays.
func TestGoesWrong(t *testing.T) {
	w := spread(t, 2)
	ok(t, "Goes", w.Goes(0, 5))
	for _, by := range []int{math.MinInt, -api.MaxTime, -1, api.MaxTime + 1, math.MaxInt} {
		checkNot(t, w, fmt.Sprint("Goes by ", by), func() error { return w.Goes(0, by) }, api.ErrRange)
	}
	if got := puts(t, w, 0, set(0, "a")).Stamp; got != (api.Stamp{Wall: 5}) {
		t.Errorf("committed at %v", got)
	}
}

// P4: what comes out is the caller's: who writes into it changes nothing of what is there, or under way.
func TestListsAreTheCallers(t *testing.T) {
	w := spread(t, 3)
	x := puts(t, w, 0, set(0, "a"), set(1, "b"))
	_, _, all, _, _ := w.Site(0)
	brings(t, w, 0)
	for i := range x.Writes {
		x.Writes[i] = set(7, "spoilt")
	}
	for i := range all {
		all[i] = "spoilt"
	}
	brings(t, w, 0)
	ok(t, "Ask", w.Ask(2, 0))
	brings(t, w, 0)
	for k := range 3 {
		checkSite(t, w, k, api.Vec{1}, 0, 2, "=a", "=b")
	}
	_, _, all, _, _ = w.Site(0)
	_, _, again, _, _ := w.Site(0)
	all[0] = "spoilt"
	if again[0] != "=a" {
		t.Errorf("two lists of Site share memory: %q", again)
	}
}
