package world_test

import (
	"fmt"
	"testing"

	"copse/api"
	"copse/world"
)

// fills lets a site ask another one until so many are under way.
func fills(t *testing.T, w *world.World, k, other, many int) {
	t.Helper()
	for range many - w.Many() {
		ok(t, "Ask", w.Ask(k, other))
	}
	checkNet(t, w, many, 0)
}

// 7.2: what is sent is behind all others: of several commits, and asks, of several sites.
func TestUnderWay(t *testing.T) {
	w := spread(t, 3)
	puts(t, w, 2, set(0, "a")) // to 0, to 1
	puts(t, w, 0, set(1, "b")) // to 1, to 2
	ok(t, "Ask", w.Ask(1, 0))  // to 0
	puts(t, w, 2, unset(0))    // to 0, to 1
	checkNet(t, w, 7, 0)
	brings(t, w, 0)
	checkApplied(t, w, 0, api.Vec{1, 0, 1})
	brings(t, w, 0)
	checkApplied(t, w, 1, api.Vec{0, 0, 1})
	brings(t, w, 0)
	checkApplied(t, w, 1, api.Vec{1, 0, 1})
	brings(t, w, 0)
	checkApplied(t, w, 2, api.Vec{1, 0, 2})
	// The ask had nothing: both that site 0 has are sent.
	brings(t, w, 0)
	checkNet(t, w, 4, 0)
	brings(t, w, 0)
	checkApplied(t, w, 0, api.Vec{1, 0, 2})
	brings(t, w, 0)
	checkApplied(t, w, 1, api.Vec{1, 0, 2})
	brings(t, w, 0, 0)
	checkNet(t, w, 0, 0)
	for k := range 3 {
		checkSite(t, w, k, api.Vec{1, 0, 2}, 0, 3, "", "=b")
	}
}

// 7.2: the first, one in the middle and the last of those that are under way; the others stay in their order.
func TestDeliverAndLose(t *testing.T) {
	for i := range 3 {
		for _, comes := range []bool{true, false} {
			w := spread(t, 4)
			puts(t, w, 0, set(0, "a")) // to 1, to 2, to 3
			if comes {
				brings(t, w, i)
			} else {
				ok(t, "Lose", w.Lose(i))
			}
			checkNet(t, w, 2, 0)
			for to := 1; to < 4; to++ {
				var want api.Vec
				if to-1 == i && comes {
					want[0] = 1
				}
				checkApplied(t, w, to, want)
			}
			for to := 1; to < 4; to++ {
				if to-1 == i {
					continue
				}
				brings(t, w, 0)
				checkApplied(t, w, to, api.Vec{1})
			}
			checkNet(t, w, 0, 0)
		}
	}
}

// 7.2: what is lost never comes, unless it is asked for; Lost has no part in it.
func TestLose(t *testing.T) {
	w := spread(t, 2)
	puts(t, w, 0, set(0, "a"))
	ok(t, "Lose", w.Lose(0))
	checkNet(t, w, 0, 0)
	checkNot(t, w, "Lose once more", func() error { return w.Lose(0) }, api.ErrRange)
	checkApplied(t, w, 1, api.Vec{})
	ok(t, "Ask", w.Ask(1, 0))
	brings(t, w, 0, 0)
	checkSite(t, w, 1, api.Vec{1}, 0, 1, "=a")

	// An ask that is lost is not known.
	puts(t, w, 0, set(0, "b"))
	brings(t, w, 0)
	ok(t, "Ask", w.Ask(1, 0))
	ok(t, "Lose", w.Lose(0))
	ok(t, "Sweep", w.Sweep(0))
	checkVersions(t, w, 0, 2)
}

// 7.2: what is sent once more stays where it is, too, and the second one is behind all others.
func TestTwice(t *testing.T) {
	for i := range 3 {
		w := spread(t, 4)
		puts(t, w, 0, set(0, "a")) // to 1, to 2, to 3
		ok(t, "Twice", w.Twice(i))
		checkNet(t, w, 4, 0)
		for to := 1; to < 4; to++ {
			checkApplied(t, w, to, api.Vec{})
		}
		// The last one is the second one of these: it comes to the same site.
		brings(t, w, 3)
		for to := 1; to < 4; to++ {
			var want api.Vec
			if to-1 == i {
				want[0] = 1
			}
			checkApplied(t, w, to, want)
		}
		for to := 1; to < 4; to++ {
			brings(t, w, 0)
			checkSite(t, w, to, api.Vec{1}, 0, 1, "=a")
		}
		checkNet(t, w, 0, 0)
	}
}

// 7.2: an ask that comes twice is answered twice; what is answered twice comes twice, which is nothing.
func TestTwiceOfAnAsk(t *testing.T) {
	w := spread(t, 2)
	puts(t, w, 0, set(0, "a"))
	loses(t, w)
	ok(t, "Ask", w.Ask(1, 0))
	ok(t, "Twice", w.Twice(0))
	brings(t, w, 0, 0)
	checkNet(t, w, 2, 0)
	ok(t, "Twice", w.Twice(1))
	brings(t, w, 0, 0, 0)
	checkNet(t, w, 0, 0)
	checkSite(t, w, 1, api.Vec{1}, 0, 1, "=a")
}

// 7.2: one that came before is no error, and changes nothing: one that was applied, and one that waits.
func TestDeliverWhatCame(t *testing.T) {
	w := spread(t, 2)
	puts(t, w, 0, set(0, "a"))
	puts(t, w, 0, set(0, "b"))
	ok(t, "Twice", w.Twice(0))
	ok(t, "Twice", w.Twice(1))
	ok(t, "Twice", w.Twice(1))
	brings(t, w, 1)
	checkSite(t, w, 1, api.Vec{}, 1, 0)
	brings(t, w, 2)
	checkSite(t, w, 1, api.Vec{}, 1, 0)
	brings(t, w, 0)
	checkSite(t, w, 1, api.Vec{2}, 0, 2, "=b")
	brings(t, w, 1, 0)
	checkSite(t, w, 1, api.Vec{2}, 0, 2, "=b")
	checkNet(t, w, 0, 0)
}

// 7.2, 7.4: a transaction whose causes have not come waits: nobody sees it, or a part of it, until they came.
func TestDeliverAheadOfCauses(t *testing.T) {
	w := spread(t, 3)
	puts(t, w, 0, set(0, "a")) // to 1, to 2
	brings(t, w, 0)
	opens(t, w, 1)
	checkRead(t, w, 1, 0, "a")
	ok(t, "Write", w.Write(1, set(1, "b")))
	ok(t, "Write", w.Write(1, set(2, "c")))
	checkTx(t, commits(t, w, 1), api.Tx{Site: 1, Seq: 1, Stamp: api.Stamp{Count: 2}, Deps: api.Vec{1}, Writes: []api.Write{set(1, "b"), set(2, "c")}})
	brings(t, w, 2)
	checkSite(t, w, 2, api.Vec{}, 1, 0)
	opens(t, w, 2)
	for key := range 3 {
		checkNoRead(t, w, 2, key, api.ErrNone)
	}
	brings(t, w, 0)
	checkSite(t, w, 2, api.Vec{1, 1}, 0, 3, "=a", "=b", "=c")
	for key := range 3 {
		checkNoRead(t, w, 2, key, api.ErrNone)
	}
	ok(t, "Abort", w.Abort(2))
	opens(t, w, 2)
	for key, want := range []string{"a", "b", "c"} {
		checkRead(t, w, 2, key, want)
	}
}

// 7.2: MaxPending wait at a site; one more that comes is gone, which is no error, and may be asked for.
func TestDeliverIntoNoRoom(t *testing.T) {
	w := spread(t, 2)
	for range api.MaxPending + 2 {
		puts(t, w, 0, set(0, "a"))
	}
	for range api.MaxPending {
		brings(t, w, 1)
	}
	checkSite(t, w, 1, api.Vec{}, api.MaxPending, 0)
	brings(t, w, 1)
	checkSite(t, w, 1, api.Vec{}, api.MaxPending, 0)
	checkNet(t, w, 1, 0)
	brings(t, w, 0)
	checkSite(t, w, 1, api.Vec{api.MaxPending + 1}, 0, api.MaxPending+1, "=a")
	ok(t, "Ask", w.Ask(1, 0))
	brings(t, w, 0)
	checkNet(t, w, 1, 0)
	brings(t, w, 0)
	checkApplied(t, w, 1, api.Vec{api.MaxPending + 2})
}

// 7.2: both are sites, and two.
func TestAsk(t *testing.T) {
	w := made(t, 3, 0)
	many := 0
	for k := -1; k <= 3; k++ {
		for other := -1; other <= 3; other++ {
			if k >= 0 && k < 3 && other >= 0 && other < 3 && k != other {
				ok(t, fmt.Sprint("Ask ", k, other), w.Ask(k, other))
				many++
			} else {
				checkNot(t, w, fmt.Sprint("Ask ", k, other), func() error { return w.Ask(k, other) }, api.ErrRange)
			}
			checkNet(t, w, many, 0)
		}
	}
	alone := made(t, 1, 0)
	checkNot(t, alone, "Ask of itself", func() error { return alone.Ask(0, 0) }, api.ErrRange)
}

// told is a world of four sites, the first of which applied one of its own, one of site 1's, its own next one, and one of site 2's; all others have their own alone, and nothing is under way.
func told(t *testing.T) *world.World {
	t.Helper()
	w := spread(t, 4)
	puts(t, w, 0, set(0, "a"))
	loses(t, w)
	puts(t, w, 1, set(1, "b"))
	brings(t, w, 0)
	loses(t, w)
	puts(t, w, 0, set(0, "c"))
	loses(t, w)
	puts(t, w, 2, set(2, "d"))
	brings(t, w, 0)
	loses(t, w)
	checkApplied(t, w, 0, api.Vec{2, 1, 1})
	return w
}

// 7.2: an ask of one that has nothing: all that is there is sent to it, and to nobody else, as it was applied.
func TestAskOfOneThatHasNothing(t *testing.T) {
	steps := []api.Vec{{1}, {1, 1}, {2, 1}, {2, 1, 1}}
	w := told(t)
	ok(t, "Ask", w.Ask(3, 0))
	checkNet(t, w, 1, 0)
	brings(t, w, 0)
	checkNet(t, w, len(steps), 0)
	for _, want := range steps {
		brings(t, w, 0)
		checkApplied(t, w, 3, want)
	}
	checkNet(t, w, 0, 0)
	checkApplied(t, w, 0, api.Vec{2, 1, 1})
	checkApplied(t, w, 1, api.Vec{0, 1})
	checkApplied(t, w, 2, api.Vec{0, 0, 1})

	// One of these alone: the second one is site 1's, the third one waits.
	w = told(t)
	ok(t, "Ask", w.Ask(3, 0))
	brings(t, w, 0, 1)
	checkSite(t, w, 3, api.Vec{0, 1}, 0, 1, "", "=b")
	brings(t, w, 1)
	checkSite(t, w, 3, api.Vec{0, 1}, 1, 1, "", "=b")
}

// 7.2: an ask of one that has some: what it has not is sent.
func TestAskOfOneThatHasSome(t *testing.T) {
	w := told(t)
	ok(t, "Ask", w.Ask(1, 0))
	brings(t, w, 0)
	checkNet(t, w, 3, 0)
	brings(t, w, 0, 0, 0)
	checkApplied(t, w, 1, api.Vec{2, 1, 1})

	// Of one that has what the other one has not: that is not told by an ask.
	ok(t, "Ask", w.Ask(1, 2))
	brings(t, w, 0)
	checkNet(t, w, 0, 0)
	checkApplied(t, w, 2, api.Vec{0, 0, 1})
}

// 7.2: an ask of one that has all: nothing is sent, but it is known.
func TestAskOfOneThatHasAll(t *testing.T) {
	w := spread(t, 2)
	puts(t, w, 0, set(0, "a"))
	puts(t, w, 0, set(0, "b"))
	brings(t, w, 0, 0)
	ok(t, "Sweep", w.Sweep(0))
	checkVersions(t, w, 0, 2)
	ok(t, "Ask", w.Ask(1, 0))
	ok(t, "Sweep", w.Sweep(0))
	checkVersions(t, w, 0, 2)
	brings(t, w, 0)
	checkNet(t, w, 0, 0)
	ok(t, "Sweep", w.Sweep(0))
	checkVersions(t, w, 0, 1)
	// Who asks knows nothing by that.
	ok(t, "Sweep", w.Sweep(1))
	checkVersions(t, w, 1, 2)
}

// 7.2: an ask tells what was applied when it was sent, whatever came since; what is not its site's own is sent.
func TestAskIsAsItWas(t *testing.T) {
	w := spread(t, 3)
	puts(t, w, 0, set(0, "a")) // to 1, to 2
	ok(t, "Ask", w.Ask(1, 0))
	brings(t, w, 0)
	checkApplied(t, w, 1, api.Vec{1})
	brings(t, w, 1)
	checkNet(t, w, 2, 0)
	brings(t, w, 1)
	checkSite(t, w, 1, api.Vec{1}, 0, 1, "=a")
	checkApplied(t, w, 2, api.Vec{})
}

// 7.2: what a site committed behind its ask, and the other one has, is not sent back to it; others' are.
func TestAskButItsOwn(t *testing.T) {
	w := spread(t, 3)
	puts(t, w, 2, set(2, "c")) // to 0, to 1
	brings(t, w, 0)
	loses(t, w)
	ok(t, "Ask", w.Ask(1, 0))
	puts(t, w, 1, set(0, "a")) // to 0, to 2
	puts(t, w, 1, set(1, "b")) // to 0, to 2
	brings(t, w, 1, 2)
	checkApplied(t, w, 0, api.Vec{0, 2, 1})
	checkNet(t, w, 3, 0)
	brings(t, w, 0)
	// The two to site 2, and site 2's own to site 1.
	checkNet(t, w, 3, 0)
	brings(t, w, 2)
	checkSite(t, w, 1, api.Vec{0, 2, 1}, 0, 3, "=a", "=b", "=c")
	brings(t, w, 0, 0)
	checkSite(t, w, 2, api.Vec{0, 2, 1}, 0, 3, "=a", "=b", "=c")
	// The answering site's own are sent.
	puts(t, w, 0, set(3, "d"))
	loses(t, w)
	ok(t, "Ask", w.Ask(1, 0))
	brings(t, w, 0)
	checkNet(t, w, 1, 0)
}

// 7.2: what waits is not told to who asks, and is not told by who asks as if it had it.
func TestAskWhileSomeWait(t *testing.T) {
	w := spread(t, 3)
	puts(t, w, 0, set(0, "a")) // to 1, to 2
	puts(t, w, 0, set(1, "b")) // to 1, to 2
	brings(t, w, 2)
	checkSite(t, w, 1, api.Vec{}, 1, 0)
	loses(t, w)
	ok(t, "Ask", w.Ask(2, 1))
	brings(t, w, 0)
	checkNet(t, w, 0, 0)

	ok(t, "Ask", w.Ask(1, 0))
	brings(t, w, 0)
	checkNet(t, w, 2, 0)
	brings(t, w, 0)
	checkSite(t, w, 1, api.Vec{2}, 0, 2, "=a", "=b")
	brings(t, w, 0)
	checkSite(t, w, 1, api.Vec{2}, 0, 2, "=a", "=b")
	ok(t, "Ask", w.Ask(2, 1))
	brings(t, w, 0, 0, 0)
	checkSite(t, w, 2, api.Vec{2}, 0, 2, "=a", "=b")
}

// 7.2: MaxNet are under way by asks; one more is lost, and the order stays; one that is gone makes room.
func TestMaxNetByAsk(t *testing.T) {
	w := spread(t, 2)
	puts(t, w, 0, set(0, "a")) // to 1
	fills(t, w, 0, 1, api.MaxNet)
	checkNet(t, w, api.MaxNet, 0)
	for lost := 1; lost < 4; lost++ {
		ok(t, "Ask", w.Ask(1, 0))
		checkNet(t, w, api.MaxNet, lost)
	}
	brings(t, w, 0)
	checkApplied(t, w, 1, api.Vec{1})
	checkNet(t, w, api.MaxNet-1, 3)
	ok(t, "Ask", w.Ask(1, 0))
	checkNet(t, w, api.MaxNet, 3)
	ok(t, "Lose", w.Lose(7))
	checkNet(t, w, api.MaxNet-1, 3)
	ok(t, "Ask", w.Ask(1, 0))
	ok(t, "Ask", w.Ask(1, 0))
	checkNet(t, w, api.MaxNet, 4)
	// A wrong ask is not lost: it is not sent.
	checkNot(t, w, "Ask", func() error { return w.Ask(1, 1) }, api.ErrRange)
	loses(t, w)
	checkNet(t, w, 0, 4)
}

// 7.2: a Commit into no room, or too little, is no error: what has no room is lost, the last ones first.
func TestMaxNetByCommit(t *testing.T) {
	for room := range 5 {
		w := spread(t, 4)
		under := api.MaxNet - room
		fills(t, w, 1, 2, under)
		checkTx(t, puts(t, w, 0, set(0, "a")), api.Tx{Site: 0, Seq: 1, Stamp: api.Stamp{Count: 1}, Writes: []api.Write{set(0, "a")}})
		sent := min(room, 3)
		checkNet(t, w, under+sent, 3-sent)
		checkSite(t, w, 0, api.Vec{1}, 0, 1, "=a")
		checkClient(t, w, 0, 0, api.Vec{1}, api.Vec{}, false)
		for range sent {
			brings(t, w, under)
		}
		for to := 1; to < 4; to++ {
			var want api.Vec
			if to <= sent {
				want[0] = 1
			}
			checkApplied(t, w, to, want)
		}
	}
}

// 7.2: with MaxNet what is sent once more is lost; what was there stays.
func TestMaxNetByTwice(t *testing.T) {
	w := spread(t, 2)
	puts(t, w, 0, set(0, "a")) // to 1
	fills(t, w, 0, 1, api.MaxNet-1)
	ok(t, "Twice", w.Twice(0))
	checkNet(t, w, api.MaxNet, 0)
	ok(t, "Twice", w.Twice(0))
	ok(t, "Twice", w.Twice(api.MaxNet-1))
	checkNet(t, w, api.MaxNet, 2)
	checkNot(t, w, "Twice", func() error { return w.Twice(api.MaxNet) }, api.ErrRange)
	brings(t, w, api.MaxNet-1)
	checkApplied(t, w, 1, api.Vec{1})
	brings(t, w, 0)
	checkNet(t, w, api.MaxNet-2, 2)
	checkSite(t, w, 1, api.Vec{1}, 0, 1, "=a")
}

// 7.2: an ask that comes leaves room for one; what is sent by it beyond that is lost, the last ones first.
func TestMaxNetByAnAskThatComes(t *testing.T) {
	for room := range 5 {
		w := told(t)
		ok(t, "Ask", w.Ask(3, 0))
		fills(t, w, 1, 2, api.MaxNet-room)
		brings(t, w, 0)
		sent := min(room+1, 4)
		checkNet(t, w, api.MaxNet-room-1+sent, 4-sent)
		steps := []api.Vec{{1}, {1, 1}, {2, 1}, {2, 1, 1}}
		for _, want := range steps[:sent] {
			brings(t, w, api.MaxNet-room-1)
			checkApplied(t, w, 3, want)
		}
	}
}
