package world_test

import (
	"slices"
	"testing"

	"copse/api"
	"copse/vector"
	"copse/world"
)

// held has what was done, from the outside: no site and no store has a part in it.
type held struct {
	sites   int
	done    []doing
	clients []doer
}

// doing is a transaction that was committed, and what it saw.
type doing struct {
	tx  api.Tx
	saw api.Vec
}

// doer is a client: what it saw and did, and what it wrote, one behind the other, while one is open.
type doer struct {
	open  bool
	seen  api.Vec
	wrote []api.Write
}

func newHeld(sites, clients int) *held {
	return &held{sites: sites, clients: make([]doer, clients)}
}

// holds: 7.4 is promised while less than MaxLog were committed.
func (h *held) holds() bool { return len(h.done) < api.MaxLog }

// begin: a client sees all that it saw, and did, ahead.
func (h *held) begin(t *testing.T, w *world.World, k int, err error) {
	t.Helper()
	if err != nil {
		return
	}
	c := &h.clients[k]
	_, _, snap, _, _ := w.Client(k)
	if !vector.Covers(snap, c.seen) {
		t.Errorf("client %d sees %v, and saw, or did, %v", k, snap, c.seen)
	}
	c.open, c.seen, c.wrote = true, vector.Max(c.seen, snap), nil
}

func (h *held) write(k int, l api.Write, err error) {
	if err == nil {
		h.clients[k].wrote = append(h.clients[k].wrote, l)
	}
}

func (h *held) commit(k int, x api.Tx, saw api.Vec, err error) {
	if err != nil {
		return
	}
	if x.Seq > 0 {
		h.done = append(h.done, doing{x, saw})
		h.clients[k].seen[x.Site] = max(h.clients[k].seen[x.Site], x.Seq)
	}
	h.end(k, err)
}

func (h *held) end(k int, err error) {
	if err == nil {
		h.clients[k].open, h.clients[k].wrote = false, nil
	}
}

// isLater: by the stamp, then the site.
func isLater(a, b api.Tx) bool {
	for _, two := range [][2]int{{a.Stamp.Wall, b.Stamp.Wall}, {a.Stamp.Count, b.Stamp.Count}, {a.Site, b.Site}} {
		if two[0] != two[1] {
			return two[0] > two[1]
		}
	}
	return false
}

// last is the last write of each key among all that a vector has; of keys without one a Gone one.
func (h *held) last(has api.Vec) [api.MaxKeys]api.Write {
	var last [api.MaxKeys]api.Write
	var by [api.MaxKeys]api.Tx
	for key := range last {
		last[key] = unset(key)
	}
	for _, x := range h.done {
		if x.tx.Seq > has[x.tx.Site] {
			continue
		}
		for _, l := range x.tx.Writes {
			if by[l.Key].Seq == 0 || isLater(x.tx, by[l.Key]) {
				last[l.Key], by[l.Key] = l, x.tx
			}
		}
	}
	return last
}

// step holds 7.4 of all clients that have a transaction open, and of all sites.
func (h *held) step(t *testing.T, w *world.World) {
	t.Helper()
	if !h.holds() {
		return
	}
	for k, c := range h.clients {
		_, _, snap, _, _ := w.Client(k)
		if c.open {
			h.closed(t, snap)
			h.reads(t, w, k, snap)
		}
	}
	for k := range h.sites {
		applied, _, all, _, _ := w.Site(k)
		h.closed(t, applied)
		h.texts(t, applied, all)
	}
}

// closed: what a vector has has all that it was over, and all that it saw.
func (h *held) closed(t *testing.T, has api.Vec) {
	t.Helper()
	many := 0
	for _, x := range h.done {
		if x.tx.Seq > has[x.tx.Site] {
			continue
		}
		many++
		if !vector.Covers(has, x.tx.Deps) || !vector.Covers(has, x.saw) {
			t.Errorf("%v has %v, which saw %v", has, x.tx, x.saw)
		}
	}
	if sum := has[0] + has[1] + has[2] + has[3]; sum != many {
		t.Errorf("%v has %d that were committed", has, many)
	}
}

// reads: a client reads what it wrote last, else the last write of each key among all that its Snap has.
func (h *held) reads(t *testing.T, w *world.World, k int, snap api.Vec) {
	t.Helper()
	last := h.last(snap)
	for _, l := range h.clients[k].wrote {
		last[l.Key] = l
	}
	for key, l := range last {
		if l.Gone {
			checkNoRead(t, w, k, key, api.ErrNone)
		} else {
			checkRead(t, w, k, key, l.Data)
		}
	}
}

// texts: what each key has is its last write among all that a vector has.
func (h *held) texts(t *testing.T, has api.Vec, all []string) {
	t.Helper()
	for key, l := range h.last(has) {
		want := "=" + l.Data
		if l.Gone {
			want = ""
		}
		if all[key] != want {
			t.Errorf("key %d has %q at %v, want %q", key, all[key], has, want)
		}
	}
}

// same: behind two Calms all sites have all that was committed, and nothing waits, or is under way.
func (h *held) same(t *testing.T, w *world.World) {
	t.Helper()
	if w.Many() != 0 {
		t.Errorf("%d are under way behind two Calms", w.Many())
	}
	if !h.holds() {
		return
	}
	var has api.Vec
	for _, x := range h.done {
		has[x.tx.Site]++
	}
	_, _, first, _, _ := w.Site(0)
	for k := range h.sites {
		checkApplied(t, w, k, has)
		_, _, all, _, _ := w.Site(k)
		if !slices.Equal(all, first) {
			t.Errorf("site %d has %q, the first one %q", k, all, first)
		}
		h.texts(t, has, all)
	}
}
