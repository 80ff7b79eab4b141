package site_test

import (
	"fmt"
	"slices"
	"testing"

	"copse/api"
	"copse/clock"
	"copse/plain"
	"copse/site"
	"copse/store"
	"copse/vector"
	"copse/wire"
)

// model is a site that goes through lists, each time anew: the document's words, one by one.
type model struct {
	id    int
	log   []api.Tx
	waits []api.Tx
	knows [api.MaxSites]api.Vec
	store store.Store
}

func (m *model) applied() api.Vec {
	var has api.Vec
	for _, x := range m.log {
		has[x.Site] = x.Seq
	}
	return has
}

func (m *model) last() api.Stamp {
	var last api.Stamp
	for _, x := range m.log {
		last = clock.Later(last, x.Stamp)
	}
	return last
}

func (m *model) apply(x api.Tx) {
	for _, w := range x.Writes {
		m.store.Put(w.Key, api.Version{Stamp: x.Stamp, Site: x.Site, Seq: x.Seq, Data: w.Data, Gone: w.Gone})
	}
	m.log = append(m.log, x)
}

func (m *model) commit(now int, deps api.Vec, l []api.Write) (api.Tx, api.Errno) {
	applied := m.applied()
	stamp, err := clock.Next(m.last(), now)
	switch {
	case !wire.RightWrites(l):
		return api.Tx{}, api.ErrArg
	case !vector.Right(deps) || !vector.Covers(applied, deps):
		return api.Tx{}, api.ErrOrder
	case len(m.log) == api.MaxLog:
		return api.Tx{}, api.ErrFull
	case err != nil:
		return api.Tx{}, api.Tell(err)
	}
	seq := applied[m.id] + 1
	deps[m.id] = seq - 1
	x := api.Tx{Site: m.id, Seq: seq, Stamp: stamp, Deps: deps, Writes: slices.Clone(l)}
	m.apply(x)
	return x, api.OK
}

func (m *model) isReady(x api.Tx) bool {
	applied := m.applied()
	return x.Seq == applied[x.Site]+1 && vector.Covers(applied, x.Deps)
}

// ready is the place of the least site's of those that wait and may be applied; -1: there is none.
func (m *model) ready() int {
	least := -1
	for i, x := range m.waits {
		if m.isReady(x) && (least < 0 || x.Site < m.waits[least].Site) {
			least = i
		}
	}
	return least
}

func (m *model) take(x api.Tx) api.Errno {
	isThat := func(y api.Tx) bool { return x.Site == y.Site && x.Seq == y.Seq }
	switch {
	case !wire.RightTx(x) || x.Site == m.id:
		return api.ErrArg
	case x.Seq <= m.applied()[x.Site] || slices.ContainsFunc(m.waits, isThat):
		return api.ErrTwice
	case len(m.log) == api.MaxLog || len(m.waits) == api.MaxPending && !m.isReady(x):
		return api.ErrFull
	}
	m.waits = append(m.waits, x)
	for len(m.log) < api.MaxLog {
		i := m.ready()
		if i < 0 {
			break
		}
		m.apply(m.waits[i])
		m.waits = slices.Delete(m.waits, i, i+1)
	}
	return api.OK
}

func (m *model) stable(sites int) api.Vec {
	stable := m.applied()
	for other, has := range m.knows {
		if other < sites && other != m.id {
			stable = vector.Min(stable, has)
		}
	}
	return stable
}

func (m *model) missing(has api.Vec) []api.Tx {
	return slices.DeleteFunc(slices.Clone(m.log), func(x api.Tx) bool { return x.Seq <= has[x.Site] })
}

// checkSame: the site tells what the model tells.
func checkSame(t *testing.T, s *site.Site, m *model, key int, at api.Vec) {
	t.Helper()
	applied := m.applied()
	checkAt(t, s, applied, len(m.waits))
	checkHas(t, s, m.store.Many(), m.store.All(applied)...)
	if got, want := s.Missing(at), m.missing(at); !slices.EqualFunc(got, want, plain.Same) {
		t.Errorf("Missing(%v) = %v, want %v", at, got, want)
	}
	for sites := range api.MaxSites + 2 {
		checkStable(t, s, sites, m.stable(sites))
	}
	v, err := m.store.Read(key, at)
	switch {
	case !vector.Covers(applied, at):
		checkNoRead(t, s, key, at, api.ErrOrder)
	case err != nil:
		checkNoRead(t, s, key, at, api.Tell(err))
	default:
		checkRead(t, s, key, at, v)
	}
}

// die: numbers that look drawn, the same each time.
type die uint64

func (d *die) n(most int) int {
	*d = *d*6364136223846793005 + 1442695040888963407
	return int(uint64(*d>>33) % uint64(most))
}

// vec is one of numbers about those of another one, a few below 0.
func (d *die) vec(about api.Vec) api.Vec {
	for i, n := range about {
		about[i] = d.n(n+3) - 1
	}
	return about
}

func (d *die) writes() []api.Write {
	var l []api.Write
	for key := d.n(3); key < api.MaxKeys+d.n(20)/19; key += 1 + d.n(7) {
		if d.n(4) == 0 {
			l = append(l, unset(key))
		} else {
			l = append(l, set(key, string(rune('a'+d.n(26)))))
		}
	}
	return l
}

// tx is one about what a site applied: mostly one of the next ones of its site, over what is there or nearly so.
func (d *die) tx(applied api.Vec, far int) api.Tx {
	of := d.n(api.MaxSites)
	x := tx(of, max(1, applied[of]+d.n(far)), d.n(9), applied, d.writes()...)
	x.Stamp.Count = d.n(3)
	for i := range x.Deps {
		if i != of && d.n(3) == 0 {
			x.Deps[i] = max(0, x.Deps[i]+d.n(4)-2)
		}
	}
	if d.n(40) == 0 {
		x.Deps[d.n(api.MaxSites)]--
	}
	return x
}

// step does one thing at both.
func (d *die) step(t *testing.T, s *site.Site, m *model, far int) {
	t.Helper()
	applied := m.applied()
	switch d.n(12) {
	case 0:
		stable := d.vec(applied)
		s.Sweep(stable)
		m.store.Sweep(vector.Min(stable, applied))
	case 1:
		other, has := d.n(api.MaxSites), d.vec(applied)
		checkErr(t, "Knows", s.Knows(other, has), api.OK)
		m.knows[other] = vector.Max(m.knows[other], has)
	case 2, 3:
		now, deps, l := d.n(12)-1, vector.Min(applied, d.vec(applied)), d.writes()
		if d.n(3) > 0 {
			deps = vector.Max(deps, api.Vec{})
		}
		got, err := s.Commit(now, deps, l)
		want, e := m.commit(now, deps, l)
		checkErr(t, fmt.Sprint("Commit ", now, deps, l), err, e)
		checkTx(t, got, want)
	default:
		x := d.tx(applied, far)
		checkErr(t, fmt.Sprint("Take ", x), s.Take(x), m.take(x))
	}
}

// 5.1 to 5.4: long runs tell, at each step, what the document's words tell: of transactions that are near, of some that are far, so that many wait, and of so many that there is no room.
func TestLongRuns(t *testing.T) {
	d := die(29)
	for run := range 60 {
		id := d.n(api.MaxSites)
		s, m := made(t, id), &model{id: id}
		kind := []struct{ steps, far int }{{60, 3}, {120, 6}, {300, 60}, {900, 4}}[run%4]
		for range kind.steps {
			d.step(t, s, m, kind.far)
			checkSame(t, s, m, d.n(api.MaxKeys+1), d.vec(m.applied()))
			if t.Failed() {
				t.Fatalf("run %d", run)
			}
		}
		checkCauses(t, s)
		checkLog(t, s, m.log...)
	}
}
