package world_test

import (
	"testing"

	"copse/api"
	"copse/world"
)

// known is a world of two sites, and three clients of which the last one is at site 1: a, b and c were written to key 0 at site 0, one behind the other; all is everywhere, and known everywhere. The hook is called behind each of the three, when it is everywhere.
func known(t *testing.T, hook func(w *world.World, text string)) *world.World {
	t.Helper()
	w := made(t, 2, 3)
	ok(t, "Move", w.Move(2, 1))
	for _, text := range []string{"a", "b", "c"} {
		puts(t, w, 0, set(0, text))
		w.Calm()
		hook(w, text)
	}
	w.Calm()
	return w
}

// 7.3: a site sweeps by what it is known to have, and each other one.
func TestSweep(t *testing.T) {
	w := known(t, func(*world.World, string) {})
	for k := range 2 {
		checkSite(t, w, k, api.Vec{3}, 0, 3, "=c")
	}
	ok(t, "Sweep", w.Sweep(0))
	checkSite(t, w, 0, api.Vec{3}, 0, 1, "=c")
	checkSite(t, w, 1, api.Vec{3}, 0, 3, "=c")
	ok(t, "Sweep", w.Sweep(1))
	checkSite(t, w, 1, api.Vec{3}, 0, 1, "=c")
	checkNet(t, w, 0, 0)
	opens(t, w, 0)
	checkRead(t, w, 0, 0, "c")
}

// 7.3: while another site is not known to have it, nothing is dropped; when it is known to have a part, by that.
func TestSweepOfWhatIsNotKnown(t *testing.T) {
	w := spread(t, 2)
	for _, text := range []string{"a", "b", "c"} {
		puts(t, w, 0, set(0, text))
	}
	loses(t, w)
	for has, left := range []int{3, 3, 2, 1} {
		checkApplied(t, w, 1, api.Vec{has})
		ok(t, "Ask", w.Ask(1, 0))
		brings(t, w, 0)
		ok(t, "Sweep", w.Sweep(0))
		checkSite(t, w, 0, api.Vec{3}, 0, left, "=c")
		// Of what was sent by that the first one comes.
		if w.Many() > 0 {
			brings(t, w, 0)
		}
		loses(t, w)
	}
}

// 7.3: in a world of one site all that it has is known.
func TestSweepAlone(t *testing.T) {
	w := made(t, 1, 1)
	for _, text := range []string{"a", "b", "c"} {
		puts(t, w, 0, set(0, text))
	}
	puts(t, w, 0, unset(0), set(1, "d"))
	checkSite(t, w, 0, api.Vec{4}, 0, 5, "", "=d")
	ok(t, "Sweep", w.Sweep(0))
	checkSite(t, w, 0, api.Vec{4}, 0, 2, "", "=d")
	ok(t, "Sweep", w.Sweep(0))
	checkSite(t, w, 0, api.Vec{4}, 0, 2, "", "=d")
}

// 7.3: each of MaxSites sites must be known to have it.
func TestSweepOfMaxSites(t *testing.T) {
	for unknown := 1; unknown < api.MaxSites; unknown++ {
		w := spread(t, api.MaxSites)
		puts(t, w, 0, set(0, "a"))
		puts(t, w, 0, set(0, "b"))
		for range w.Many() {
			brings(t, w, 0)
		}
		for k := 1; k < api.MaxSites; k++ {
			if k != unknown {
				ok(t, "Ask", w.Ask(k, 0))
				brings(t, w, 0)
			}
		}
		ok(t, "Sweep", w.Sweep(0))
		checkVersions(t, w, 0, 2)
		ok(t, "Ask", w.Ask(unknown, 0))
		brings(t, w, 0)
		ok(t, "Sweep", w.Sweep(0))
		checkVersions(t, w, 0, 1)
	}
}

// 7.3: a Sweep while a client there reads at an older Snap keeps what it reads, however it ends; behind that it is dropped.
func TestSweepWhileOneReadsThere(t *testing.T) {
	for _, end := range []func(w *world.World) error{
		func(w *world.World) error { return w.Abort(1) },
		func(w *world.World) error { _, err := w.Commit(1); return err },
	} {
		w := known(t, func(w *world.World, text string) {
			if text == "b" {
				opens(t, w, 1)
			}
		})
		checkClient(t, w, 1, 0, api.Vec{}, api.Vec{2}, true)
		ok(t, "Sweep", w.Sweep(0))
		checkSite(t, w, 0, api.Vec{3}, 0, 2, "=c")
		checkRead(t, w, 1, 0, "b")
		ok(t, "Sweep", w.Sweep(0))
		checkVersions(t, w, 0, 2)
		ok(t, "its end", end(w))
		checkVersions(t, w, 0, 2)
		ok(t, "Sweep", w.Sweep(0))
		checkSite(t, w, 0, api.Vec{3}, 0, 1, "=c")
	}
}

// 7.3: who reads elsewhere at an older Snap has no part in it: its own site has what it reads, and keeps it.
func TestSweepWhileOneReadsElsewhere(t *testing.T) {
	w := known(t, func(w *world.World, text string) {
		if text == "a" {
			opens(t, w, 2)
		}
	})
	checkClient(t, w, 2, 1, api.Vec{}, api.Vec{1}, true)
	ok(t, "Sweep", w.Sweep(0))
	checkVersions(t, w, 0, 1)
	ok(t, "Sweep", w.Sweep(1))
	checkVersions(t, w, 1, 3)
	checkRead(t, w, 2, 0, "a")
	ok(t, "Abort", w.Abort(2))
	ok(t, "Sweep", w.Sweep(1))
	checkVersions(t, w, 1, 1)
	opens(t, w, 2)
	checkRead(t, w, 2, 0, "c")
}

// 7.3: of several that read there the least counts, of each site; those that are not open do not.
func TestSweepWhileSeveralRead(t *testing.T) {
	for _, order := range [][]int{{1, 2}, {2, 1}} {
		w := made(t, 1, 4)
		for i, text := range []string{"a", "b", "c"} {
			puts(t, w, 0, set(0, text))
			if i < len(order) {
				opens(t, w, order[i])
			}
		}
		ok(t, "Sweep", w.Sweep(0))
		checkVersions(t, w, 0, 3)
		checkRead(t, w, order[0], 0, "a")
		checkRead(t, w, order[1], 0, "b")
		ok(t, "Abort", w.Abort(order[0]))
		ok(t, "Sweep", w.Sweep(0))
		checkVersions(t, w, 0, 2)
		checkRead(t, w, order[1], 0, "b")
		ok(t, "Abort", w.Abort(order[1]))
		ok(t, "Sweep", w.Sweep(0))
		checkVersions(t, w, 0, 1)
	}
}

// 7.3: a site that has less than others sweeps by what it has.
func TestSweepBehind(t *testing.T) {
	w := spread(t, 2)
	for _, text := range []string{"a", "b", "c"} {
		puts(t, w, 0, set(0, text))
	}
	brings(t, w, 0, 0)
	ok(t, "Ask", w.Ask(0, 1))
	brings(t, w, 1)
	ok(t, "Sweep", w.Sweep(1))
	checkSite(t, w, 1, api.Vec{2}, 0, 1, "=b")
	brings(t, w, 0)
	checkSite(t, w, 1, api.Vec{3}, 0, 2, "=c")
}

// 7.3: a Calm with nothing under way, where nothing is: nothing is changed.
func TestCalmOfNothing(t *testing.T) {
	for sites := 1; sites <= api.MaxSites; sites++ {
		w := made(t, sites, 2)
		w.Calm()
		checkNew(t, w, sites, 2)
		w.Calm()
		checkNew(t, w, sites, 2)
	}
}

// 7.3: one site alone asks nobody.
func TestCalmAlone(t *testing.T) {
	w := made(t, 1, 1)
	puts(t, w, 0, set(0, "a"))
	opens(t, w, 0, set(0, "b"))
	before := shown(w)
	w.Calm()
	if got := shown(w); got != before {
		t.Errorf("Calm changed %s to %s", before, got)
	}
}

// 7.3: all that is under way comes, and what was lost before, too; a client that is open sees what it saw.
func TestCalm(t *testing.T) {
	w := spread(t, 3)
	opens(t, w, 2, set(5, "mine"))
	puts(t, w, 0, set(0, "a"))
	loses(t, w)
	puts(t, w, 0, set(0, "b"))
	puts(t, w, 1, set(1, "c"))
	ok(t, "Ask", w.Ask(2, 1))
	checkNet(t, w, 5, 0)
	w.Calm()
	checkNet(t, w, 0, 0)
	for k := range 3 {
		checkSite(t, w, k, api.Vec{2, 1}, 0, 3, "=b", "=c")
	}
	checkClient(t, w, 2, 2, api.Vec{}, api.Vec{}, true)
	checkNoRead(t, w, 2, 0, api.ErrNone)
	checkRead(t, w, 2, 5, "mine")
}

// 7.3: what one site alone has, and nobody was told, is everywhere behind a Calm, whichever site that is.
func TestCalmOfWhatWasLost(t *testing.T) {
	for sites := 2; sites <= api.MaxSites; sites++ {
		for from := range sites {
			w := spread(t, sites)
			puts(t, w, from, set(0, "a"), set(7, "b"))
			puts(t, w, from, unset(0))
			loses(t, w)
			w.Calm()
			var has api.Vec
			has[from] = 2
			for k := range sites {
				checkSite(t, w, k, has, 0, 3, "", "", "", "", "", "", "", "=b")
			}
			checkNet(t, w, 0, 0)
		}
	}
}

// 7.3: what is under way comes the first one first: asks that are ahead find no room for what they send, but their own.
func TestCalmBringsTheFirstOneFirst(t *testing.T) {
	w := spread(t, 2)
	puts(t, w, 0, set(0, "a"))
	puts(t, w, 0, set(0, "b"))
	loses(t, w)
	fills(t, w, 1, 0, api.MaxNet)
	w.Calm()
	// Of each ask's two the second one is lost.
	checkNet(t, w, 0, api.MaxNet)
	checkSite(t, w, 1, api.Vec{2}, 0, 2, "=b")
}

// 7.3, 7.4: each ask is answered ahead of the next one: of as many as hold the promises nothing is lost for want of room.
func TestCalmOfMany(t *testing.T) {
	w := spread(t, api.MaxSites)
	var has api.Vec
	for i := range api.MaxLog - 1 {
		puts(t, w, i%api.MaxSites, set(i%api.MaxKeys, "a"))
		loses(t, w)
		has[i%api.MaxSites]++
	}
	w.Calm()
	checkNet(t, w, 0, 0)
	for k := range api.MaxSites {
		checkApplied(t, w, k, has)
	}
}

// 7.3: each site asks the first one of the others first: what it is known to have behind one Calm tells which asks were ahead.
func TestCalmInOrder(t *testing.T) {
	left := map[int][]int{ // by where the two versions were: how many each site keeps
		0: {2, 1, 1},
		1: {2, 2, 1},
		2: {2, 2, 2},
	}
	for from, want := range left {
		w := spread(t, 3)
		puts(t, w, from, set(0, "a"))
		puts(t, w, from, set(0, "b"))
		loses(t, w)
		w.Calm()
		for k := range 3 {
			ok(t, "Sweep", w.Sweep(k))
			checkVersions(t, w, k, want[k])
		}
	}
}

// 7.3, 7.4: behind two Calms all sites have the same, and know it.
func TestTwoCalms(t *testing.T) {
	for from := range api.MaxSites {
		w := spread(t, api.MaxSites)
		puts(t, w, from, set(0, "a"))
		puts(t, w, from, set(0, "b"))
		loses(t, w)
		w.Calm()
		w.Calm()
		var has api.Vec
		has[from] = 2
		for k := range api.MaxSites {
			checkSite(t, w, k, has, 0, 2, "=b")
			ok(t, "Sweep", w.Sweep(k))
			checkSite(t, w, k, has, 0, 1, "=b")
		}
	}
}

// 7.3: what a Site and a Client tell, while one waits, and while one is open and behind.
func TestSiteAndClient(t *testing.T) {
	w := spread(t, 2)
	puts(t, w, 0, set(0, "a"), set(1, ""))
	puts(t, w, 0, unset(1), set(7, "b"))
	checkSite(t, w, 0, api.Vec{2}, 0, 4, "=a", "", "", "", "", "", "", "=b")
	brings(t, w, 1)
	checkSite(t, w, 1, api.Vec{}, 1, 0)
	checkClient(t, w, 1, 1, api.Vec{}, api.Vec{}, false)
	brings(t, w, 0)
	checkSite(t, w, 1, api.Vec{2}, 0, 4, "=a", "", "", "", "", "", "", "=b")
	opens(t, w, 1)
	checkClient(t, w, 1, 1, api.Vec{}, api.Vec{2}, true)
	commits(t, w, 1)
	checkClient(t, w, 1, 1, api.Vec{2}, api.Vec{}, false)
	checkClient(t, w, 0, 0, api.Vec{2}, api.Vec{}, false)
}

// 7.4: a client sees all that it saw, and did, ahead: where that did not come it does not begin.
func TestClientSeesWhatItSaw(t *testing.T) {
	w := made(t, 3, 2)
	puts(t, w, 0, set(0, "a")) // to 1, to 2
	opens(t, w, 1)
	checkRead(t, w, 1, 0, "a")
	ok(t, "Abort", w.Abort(1))
	ok(t, "Move", w.Move(1, 1))
	checkNot(t, w, "Begin", func() error { return w.Begin(1) }, api.ErrOrder)
	brings(t, w, 0)
	puts(t, w, 1, set(1, "b")) // to 0, to 2
	ok(t, "Move", w.Move(1, 2))
	checkNot(t, w, "Begin", func() error { return w.Begin(1) }, api.ErrOrder)
	brings(t, w, 2)
	checkSite(t, w, 2, api.Vec{}, 1, 0)
	checkNot(t, w, "Begin", func() error { return w.Begin(1) }, api.ErrOrder)
	brings(t, w, 0)
	opens(t, w, 1)
	checkRead(t, w, 1, 0, "a")
	checkRead(t, w, 1, 1, "b")
}

// 7.4: the last write is the same everywhere, in whichever order they came: by the stamp, then the site.
func TestLastWrite(t *testing.T) {
	for _, order := range [][]int{{0, 0, 0, 0, 0, 0}, {5, 4, 3, 2, 1, 0}, {2, 3, 0, 0, 1, 0}} {
		w := spread(t, 3)
		ok(t, "Goes", w.Goes(1, 3))
		puts(t, w, 0, set(0, "of 0"), set(1, "of 0"))
		puts(t, w, 1, set(0, "of 1"), set(2, "of 1"))
		puts(t, w, 2, set(1, "of 2"), set(2, "of 2"))
		brings(t, w, order...)
		for k := range 3 {
			checkSite(t, w, k, api.Vec{1, 1, 1}, 0, 6, "=of 1", "=of 2", "=of 1")
		}
	}
}
