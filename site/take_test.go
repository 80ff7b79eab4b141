package site_test

import (
	"fmt"
	"math"
	"testing"

	"copse/api"
	"copse/site"
)

// Example 7 of the document: what one commits at a site is read at another one, when it came there.
func TestTakeOfTheDocument(t *testing.T) {
	a, b := made(t, 0), made(t, 1)
	x := commits(t, a, 5, set(2, "a"))
	checkNoRead(t, b, 2, b.Applied(), api.ErrNone)
	takes(t, b, x)
	checkAt(t, b, api.Vec{1}, 0)
	checkHas(t, b, 1, "", "", "=a")
	checkRead(t, b, 2, api.Vec{1}, api.Version{Stamp: x.Stamp, Site: 0, Seq: 1, Data: "a"})
	checkLog(t, b, x)
}

// Example 4 of the document, of sites: who has both reads the later one, in whichever order they came; who has the other one alone reads that.
func TestReadOfTheDocument(t *testing.T) {
	a := tx(0, 1, 5, api.Vec{}, set(2, "a"))
	b := tx(1, 1, 3, api.Vec{}, set(2, "b"))
	for _, l := range [][]api.Tx{{a, b}, {b, a}} {
		s := made(t, 2)
		takes(t, s, l...)
		checkHas(t, s, 2, "", "", "=a")
		checkRead(t, s, 2, api.Vec{1, 1}, api.Version{Stamp: a.Stamp, Site: 0, Seq: 1, Data: "a"})
		checkRead(t, s, 2, api.Vec{0, 1}, api.Version{Stamp: b.Stamp, Site: 1, Seq: 1, Data: "b"})
	}
}

// 5.3: what is not right, and what is this site's own, is told ahead of all else.
func TestTakeOfWrongOnes(t *testing.T) {
	but := func(change func(x *api.Tx)) api.Tx {
		x := tx(1, 1, 3, api.Vec{}, set(2, "b"))
		change(&x)
		return x
	}
	s := made(t, 2)
	own := commits(t, s, 3, set(2, "a"))
	takes(t, s, plainTx(1, 1))
	wrong := []api.Tx{
		{},
		own,
		plainTx(2, 1),
		plainTx(2, 2),
		plainTx(2, 3),
		but(func(x *api.Tx) { x.Site = -1 }),
		but(func(x *api.Tx) { x.Site = api.MaxSites }),
		but(func(x *api.Tx) { x.Site = math.MinInt }),
		but(func(x *api.Tx) { x.Site = math.MaxInt }),
		but(func(x *api.Tx) { x.Seq, x.Deps[1] = 0, 0 }),
		but(func(x *api.Tx) { x.Seq, x.Deps[1] = 0, -1 }),
		but(func(x *api.Tx) { x.Seq, x.Deps[1] = api.MaxTime+1, api.MaxTime }),
		but(func(x *api.Tx) { x.Stamp.Wall = -1 }),
		but(func(x *api.Tx) { x.Stamp.Count = api.MaxTime + 1 }),
		but(func(x *api.Tx) { x.Deps[0] = -1 }),
		but(func(x *api.Tx) { x.Deps[3] = api.MaxTime + 1 }),
		but(func(x *api.Tx) { x.Deps[1] = 1 }),
		but(func(x *api.Tx) { x.Seq = 2 }),
		but(func(x *api.Tx) { x.Writes = nil }),
		but(func(x *api.Tx) { x.Writes = []api.Write{set(2, "a"), set(2, "b")} }),
		but(func(x *api.Tx) { x.Writes = []api.Write{set(api.MaxKeys, "a")} }),
	}
	for _, x := range wrong {
		checkNoTake(t, s, x, api.ErrArg)
	}
	fill(t, s, 3)
	for _, x := range wrong {
		checkNoTake(t, s, x, api.ErrArg)
	}
	checkNoTake(t, s, but(func(*api.Tx) {}), api.ErrTwice)
}

// fill lets a site apply another one's transactions, until there is no room.
func fill(t *testing.T, s *site.Site, of int) {
	t.Helper()
	for len(s.Missing(api.Vec{})) < api.MaxLog {
		takes(t, s, plainTx(of, s.Applied()[of]+1))
	}
}

// 5.3: one that was applied, one that waits, and another one of that Site and Seq.
func TestTakeTwice(t *testing.T) {
	s := made(t, 0)
	applied, waits := plainTx(1, 1), plainTx(1, 3)
	takes(t, s, applied, waits)
	again := tx(1, 1, 7, api.Vec{}, set(5, "x"))
	waitsAgain := tx(1, 3, 7, api.Vec{}, set(5, "x"))
	waitsOverMore := tx(1, 3, 7, api.Vec{0, 0, 1, 1}, set(5, "x"))
	for range 2 {
		for _, x := range []api.Tx{applied, again, waits, waitsAgain, waitsOverMore} {
			checkNoTake(t, s, x, api.ErrTwice)
		}
	}
	takes(t, s, plainTx(1, 2))
	checkLog(t, s, applied, plainTx(1, 2), waits)
	for _, x := range []api.Tx{applied, again, plainTx(1, 2), waits, waitsAgain} {
		checkNoTake(t, s, x, api.ErrTwice)
	}
	// The same number of another site is another one.
	takes(t, s, plainTx(2, 3), plainTx(3, 3))
	checkAt(t, s, api.Vec{0, 3}, 2)
}

// 5.3: one waits for those ahead of it of its site, and for all that it is over; what waits is not read.
func TestTakeWaits(t *testing.T) {
	over := api.Vec{0, 0, 2, 1}
	cases := []struct {
		name  string
		ahead []api.Tx
		tx    api.Tx
		waits int
	}{
		{"the first one", nil, plainTx(1, 1), 0},
		{"the second one alone", nil, plainTx(1, 2), 1},
		{"the second one", []api.Tx{plainTx(1, 1)}, plainTx(1, 2), 0},
		{"the third one behind the first", []api.Tx{plainTx(1, 1)}, plainTx(1, 3), 1},
		{"a far one", []api.Tx{plainTx(1, 1)}, plainTx(1, api.MaxTime), 1},
		{"over what did not come", nil, tx(1, 1, 1, over, set(1, "1")), 1},
		{"over what came in part", []api.Tx{plainTx(2, 1), plainTx(3, 1)}, tx(1, 1, 1, over, set(1, "1")), 1},
		{"over what came of one site", []api.Tx{plainTx(2, 1), plainTx(2, 2)}, tx(1, 1, 1, over, set(1, "1")), 1},
		{"over what came", []api.Tx{plainTx(2, 1), plainTx(3, 1), plainTx(2, 2)}, tx(1, 1, 1, over, set(1, "1")), 0},
		{"over more than came", []api.Tx{plainTx(2, 1)}, tx(1, 1, 1, api.Vec{0, 0, api.MaxTime}, set(1, "1")), 1},
		{"over more of this site", nil, tx(1, 1, 1, api.Vec{1}, set(1, "1")), 1},
		{"over none of the others that came", []api.Tx{plainTx(2, 1), plainTx(3, 1)}, plainTx(1, 1), 0},
	}
	for _, c := range cases {
		t.Run(c.name, func(t *testing.T) {
			s := made(t, 0)
			takes(t, s, c.ahead...)
			before := s.Applied()
			takes(t, s, c.tx)
			if c.waits == 0 {
				before[c.tx.Site] = c.tx.Seq
				checkLog(t, s, append(c.ahead, c.tx)...)
			} else {
				checkLog(t, s, c.ahead...)
				checkHas(t, s, len(c.ahead), s.All()...)
			}
			checkAt(t, s, before, c.waits)
		})
	}
}

// 5.3: several become ready by one that comes: the least site's is applied first, each time anew.
func TestLeastSiteFirst(t *testing.T) {
	one := func(of, seq int, deps api.Vec) api.Tx {
		return tx(of, seq, 1, deps, set(of, fmt.Sprint(seq)))
	}
	cases := []struct {
		name  string
		waits []api.Tx
		tx    api.Tx
		order []int // places in waits
		left  int
	}{
		{"of two sites", []api.Tx{one(1, 1, api.Vec{2: 1}), one(0, 1, api.Vec{2: 1})}, one(2, 1, api.Vec{}), []int{1, 0}, 0},
		{"two of the least one ahead of another one's", []api.Tx{one(1, 1, api.Vec{2: 1}), one(0, 2, api.Vec{2: 1}), one(0, 1, api.Vec{2: 1})}, one(2, 1, api.Vec{}), []int{2, 1, 0}, 0},
		{"of its own site, and of a lesser one", []api.Tx{one(2, 2, api.Vec{}), one(1, 1, api.Vec{2: 1})}, one(2, 1, api.Vec{}), []int{1, 0}, 0},
		{"of its own site, and of a greater one", []api.Tx{one(1, 1, api.Vec{0: 1}), one(0, 2, api.Vec{}), one(0, 3, api.Vec{})}, one(0, 1, api.Vec{}), []int{1, 2, 0}, 0},
		{"a lesser one that becomes ready later", []api.Tx{one(1, 2, api.Vec{}), one(0, 1, api.Vec{1: 1}), one(1, 1, api.Vec{2: 1})}, one(2, 1, api.Vec{}), []int{2, 1, 0}, 0},
		{"back and forth", []api.Tx{one(0, 2, api.Vec{1: 2}), one(1, 2, api.Vec{0: 1}), one(0, 1, api.Vec{1: 1}), one(1, 1, api.Vec{2: 1})}, one(2, 1, api.Vec{}), []int{3, 2, 1, 0}, 0},
		{"some stay", []api.Tx{one(0, 1, api.Vec{2: 2}), one(1, 1, api.Vec{2: 1}), one(1, 3, api.Vec{}), one(2, 3, api.Vec{})}, one(2, 1, api.Vec{}), []int{1}, 3},
		{"none", []api.Tx{one(0, 1, api.Vec{2: 2}), one(1, 2, api.Vec{})}, one(2, 1, api.Vec{}), nil, 2},
	}
	for _, c := range cases {
		t.Run(c.name, func(t *testing.T) {
			s := made(t, 3)
			takes(t, s, c.waits...)
			checkAt(t, s, api.Vec{}, len(c.waits))
			takes(t, s, c.tx)
			want := []api.Tx{c.tx}
			for _, place := range c.order {
				want = append(want, c.waits[place])
			}
			checkLog(t, s, want...)
			checkAt(t, s, s.Applied(), c.left)
		})
	}
}

// 5.2, 5.3: what a commit makes ready is applied when the next one comes, and then the least site's first, even ahead of that one.
func TestReadyByCommit(t *testing.T) {
	s := made(t, 3)
	first := tx(1, 1, 1, api.Vec{3: 1}, set(1, "a"))
	takes(t, s, first)
	own := commits(t, s, 2, set(3, "b"))
	checkAt(t, s, api.Vec{3: 1}, 1)
	// What is told with an error changes nothing: not even what waits goes on.
	checkNoTake(t, s, first, api.ErrTwice)
	checkNoTake(t, s, own, api.ErrArg)
	checkNoCommit(t, s, -1, api.Vec{}, []api.Write{set(1, "a")}, api.ErrRange)
	second := tx(2, 1, 1, api.Vec{}, set(2, "c"))
	takes(t, s, second)
	checkAt(t, s, api.Vec{0, 1, 1, 1}, 0)
	checkLog(t, s, own, first, second)
}

// 5.2, 5.3: what comes and has to wait lets those go on that a commit made ready.
func TestReadyByCommitWhenOneWaits(t *testing.T) {
	s := made(t, 3)
	first := tx(1, 1, 1, api.Vec{3: 1}, set(1, "a"))
	takes(t, s, first)
	own := commits(t, s, 2, set(3, "b"))
	takes(t, s, plainTx(2, 2))
	checkAt(t, s, api.Vec{0, 1, 0, 1}, 1)
	checkLog(t, s, own, first)
}

// 5.3: MaxPending wait: one more is taken only if it could be applied at once.
func TestMaxPending(t *testing.T) {
	s := made(t, 0)
	for seq := 2; seq <= api.MaxPending; seq++ {
		takes(t, s, plainTx(1, seq))
	}
	checkAt(t, s, api.Vec{}, api.MaxPending-1)
	takes(t, s, plainTx(1, api.MaxPending+1))
	checkAt(t, s, api.Vec{}, api.MaxPending)

	checkNoTake(t, s, plainTx(1, api.MaxPending+2), api.ErrFull)
	checkNoTake(t, s, plainTx(2, 2), api.ErrFull)
	checkNoTake(t, s, tx(2, 1, 1, api.Vec{1: 1}, set(2, "a")), api.ErrFull)
	checkNoTake(t, s, tx(2, 1, 1, api.Vec{0: 1}, set(2, "a")), api.ErrFull)
	checkNoTake(t, s, plainTx(1, 2), api.ErrTwice)
	checkNoTake(t, s, plainTx(0, 1), api.ErrArg)

	takes(t, s, plainTx(2, 1), plainTx(3, 1), tx(2, 2, 1, api.Vec{3: 1}, set(2, "a")))
	checkAt(t, s, api.Vec{0, 0, 2, 1}, api.MaxPending)
	commits(t, s, 1, set(5, "a"))
	checkNoTake(t, s, plainTx(2, 2), api.ErrTwice)
	checkNoTake(t, s, plainTx(2, 4), api.ErrFull)

	takes(t, s, plainTx(1, 1))
	checkAt(t, s, api.Vec{1, api.MaxPending + 1, 2, 1}, 0)
	takes(t, s, plainTx(2, 4))
	checkAt(t, s, api.Vec{1, api.MaxPending + 1, 2, 1}, 1)
}

// 5.3: MaxPending wait, and some of them could be applied, by a commit: what comes is held against what was applied when it came.
func TestMaxPendingBehindCommit(t *testing.T) {
	s := made(t, 0)
	takes(t, s, tx(1, 1, 1, api.Vec{0: 1}, set(1, "a")))
	for seq := 2; seq <= api.MaxPending; seq++ {
		takes(t, s, plainTx(2, seq))
	}
	commits(t, s, 1, set(0, "a"))
	checkAt(t, s, api.Vec{1}, api.MaxPending)
	checkNoTake(t, s, plainTx(3, 2), api.ErrFull)
	checkNoTake(t, s, plainTx(1, 2), api.ErrFull)
	takes(t, s, plainTx(3, 1))
	checkAt(t, s, api.Vec{1, 1, 0, 1}, api.MaxPending-1)
	takes(t, s, plainTx(1, 3))
	checkNoTake(t, s, plainTx(3, 3), api.ErrFull)
}

// 5.3: a site that applied MaxLog takes nothing any more.
func TestTakeWhenFull(t *testing.T) {
	s := made(t, 0)
	takes(t, s, plainTx(2, 2))
	commits(t, s, 1, set(0, "a"))
	fill(t, s, 1)
	checkAt(t, s, api.Vec{1, api.MaxLog - 1}, 1)
	checkNoTake(t, s, plainTx(1, api.MaxLog), api.ErrFull)
	checkNoTake(t, s, plainTx(1, api.MaxLog+1), api.ErrFull)
	checkNoTake(t, s, plainTx(2, 1), api.ErrFull)
	checkNoTake(t, s, plainTx(2, 3), api.ErrFull)
	checkNoTake(t, s, plainTx(3, 1), api.ErrFull)
	checkNoTake(t, s, plainTx(2, 2), api.ErrTwice)
	checkNoTake(t, s, plainTx(1, 1), api.ErrTwice)
	checkNoTake(t, s, plainTx(1, api.MaxLog-1), api.ErrTwice)
	checkNoTake(t, s, plainTx(0, 2), api.ErrArg)
}

// 5.3: where MaxLog is reached while others could be applied too, they go on waiting.
func TestFullWhileOthersWait(t *testing.T) {
	s := made(t, 0)
	for seq := 1; seq <= api.MaxLog-2; seq++ {
		takes(t, s, plainTx(1, seq))
	}
	takes(t, s, plainTx(2, 4), plainTx(2, 3), plainTx(2, 2), tx(1, api.MaxLog-1, 1, api.Vec{2: 1}, set(0, "a")))
	checkAt(t, s, api.Vec{0, api.MaxLog - 2}, 4)
	takes(t, s, plainTx(2, 1))
	checkAt(t, s, api.Vec{0, api.MaxLog - 1, 1}, 3)
	checkHas(t, s, api.MaxLog, "=a", fmt.Sprint("=", api.MaxLog-2), "=1")
	checkNoTake(t, s, plainTx(2, 2), api.ErrTwice)
	checkNoTake(t, s, plainTx(2, 5), api.ErrFull)
	checkNoTake(t, s, plainTx(3, 1), api.ErrFull)
	checkNoCommit(t, s, 1, api.Vec{}, []api.Write{set(0, "a")}, api.ErrFull)
}

// 5.3: one that may be applied, but behind others, when there is room for these alone, waits.
func TestFullBeforeTheOneThatComes(t *testing.T) {
	s := made(t, 0)
	for seq := 1; seq <= api.MaxLog-2; seq++ {
		takes(t, s, plainTx(2, seq))
	}
	takes(t, s, tx(1, 1, 1, api.Vec{0: 1}, set(1, "a")))
	commits(t, s, 1, set(0, "a"))
	takes(t, s, plainTx(3, 1))
	checkAt(t, s, api.Vec{1, 1, api.MaxLog - 2, 0}, 1)
}

// grown are transactions that three sites committed, over each other's.
func grown(t *testing.T) []api.Tx {
	a, b, c := made(t, 0), made(t, 1), made(t, 2)
	x := commits(t, a, 5, set(0, "a"), set(1, "b"))
	y := commits(t, b, 5, set(0, "c"), unset(2))
	takes(t, c, y)
	z := over(t, c, 3, unset(0), set(2, "d"))
	takes(t, a, z, y)
	x2 := over(t, a, 1, set(1, "e"), set(2, "f"))
	takes(t, b, x)
	y2 := over(t, b, 9, set(0, "g"))
	z2 := over(t, c, 2, set(3, "h"))
	return []api.Tx{x, y, z, x2, y2, z2}
}

// over lets a site commit writes, over all that it has.
func over(t *testing.T, s *site.Site, now int, l ...api.Write) api.Tx {
	t.Helper()
	x, err := s.Commit(now, s.Applied(), l)
	checkErr(t, fmt.Sprint("Commit ", l), err, api.OK)
	return x
}

// orders are all orders of the numbers below n.
func orders(n int) [][]int {
	if n == 0 {
		return [][]int{nil}
	}
	var all [][]int
	for _, l := range orders(n - 1) {
		for place := range n {
			longer := append([]int{}, l[:place]...)
			longer = append(longer, n-1)
			all = append(all, append(longer, l[place:]...))
		}
	}
	return all
}

// closed is the greatest vector all of whose transactions came, with all that they are over.
func closed(came []api.Tx) api.Vec {
	var has api.Vec
	for range came {
		for _, x := range came {
			isOver := true
			for i, n := range x.Deps {
				isOver = isOver && n <= has[i]
			}
			if isOver {
				has[x.Site] = max(has[x.Site], x.Seq)
			}
		}
	}
	return has
}

// 5.3: how it came is not seen: in every order, some twice, what may be applied is, and in the end all have the same.
func TestEveryOrder(t *testing.T) {
	l := grown(t)
	want := []string{"=g", "=e", "=f", "=h"}
	for _, order := range orders(len(l)) {
		s := made(t, 3)
		var came []api.Tx
		for i, place := range order {
			takes(t, s, l[place])
			came = append(came, l[place])
			applied := closed(came)
			sum := applied[0] + applied[1] + applied[2]
			checkAt(t, s, applied, len(came)-sum)
			checkNoTake(t, s, came[i/2], api.ErrTwice)
		}
		checkAt(t, s, api.Vec{2, 2, 2}, 0)
		checkHas(t, s, 10, want...)
		checkCauses(t, s)
	}
}

// checkCauses: whatever was applied was applied behind all that it is over.
func checkCauses(t *testing.T, s *site.Site) {
	t.Helper()
	var has api.Vec
	for _, x := range s.Missing(api.Vec{}) {
		for i, n := range x.Deps {
			if n > has[i] {
				t.Errorf("%v was applied when %v were", x, has)
			}
		}
		has[x.Site] = x.Seq
	}
	if has != s.Applied() {
		t.Errorf("Applied() = %v, but %v were", s.Applied(), has)
	}
}
