package session_test

import (
	"fmt"
	"slices"
	"testing"

	"copse/api"
	"copse/plain"
	"copse/session"
	"copse/site"
	"copse/vector"
)

// model is a session that keeps all its writes, one behind the other: the document's words, one by one.
type model struct {
	past, snap api.Vec
	open       bool
	wrote      []api.Write
}

func (m *model) begin(x *site.Site) api.Errno {
	switch {
	case m.open:
		return api.ErrState
	case !vector.Covers(x.Applied(), m.past):
		return api.ErrOrder
	}
	m.open, m.snap, m.wrote = true, x.Applied(), nil
	return api.OK
}

func (m *model) read(x *site.Site, key int) (string, api.Errno) {
	if !m.open {
		return "", api.ErrState
	}
	for _, w := range slices.Backward(m.wrote) {
		if w.Key == key && w.Gone {
			return "", api.ErrNone
		}
		if w.Key == key {
			return w.Data, api.OK
		}
	}
	v, err := x.Read(key, m.snap)
	return v.Data, api.Tell(err)
}

// last is the last write of each key, by the keys, rising.
func (m *model) last() []api.Write {
	var l []api.Write
	for _, w := range slices.Backward(m.wrote) {
		if !slices.ContainsFunc(l, func(later api.Write) bool { return later.Key == w.Key }) {
			l = append(l, w)
		}
	}
	slices.SortFunc(l, func(a, b api.Write) int { return a.Key - b.Key })
	return l
}

func (m *model) write(w api.Write) api.Errno {
	others := slices.DeleteFunc(m.last(), func(other api.Write) bool { return other.Key == w.Key })
	switch {
	case !m.open:
		return api.ErrState
	case w.Key < 0 || w.Key > api.MaxKeys-1:
		return api.ErrRange
	case len(w.Data) > api.MaxData:
		return api.ErrLimit
	case w.Gone && len(w.Data) > 0:
		return api.ErrArg
	case len(others) == api.MaxWrites:
		return api.ErrFull
	}
	m.wrote = append(m.wrote, w)
	return api.OK
}

func (m *model) commit(x *site.Site, now int) (api.Tx, api.Errno) {
	if !m.open {
		return api.Tx{}, api.ErrState
	}
	var tx api.Tx
	if len(m.wrote) > 0 {
		var err error
		if tx, err = x.Commit(now, m.snap, m.last()); err != nil {
			return api.Tx{}, api.Tell(err)
		}
	}
	m.abort()
	if tx.Seq > m.past[tx.Site] {
		m.past[tx.Site] = tx.Seq
	}
	return tx, api.OK
}

func (m *model) abort() api.Errno {
	if !m.open {
		return api.ErrState
	}
	*m = model{past: vector.Max(m.past, m.snap)}
	return api.OK
}

// die: numbers that look drawn, the same each time.
type die uint64

func (d *die) n(most int) int {
	*d = *d*6364136223846793005 + 1442695040888963407
	return int(uint64(*d>>33) % uint64(most))
}

// write is one of keys about those that there are, and of texts about as long as they may be; most are right.
func (d *die) write() api.Write {
	w := set(d.n(api.MaxKeys), "0123456789abc"[:d.n(api.MaxData+1)])
	switch d.n(12) {
	case 0:
		w.Key = []int{-1, api.MaxKeys}[d.n(2)]
	case 1:
		w.Data += "0123456789abc"
	case 2:
		w.Gone = true
	}
	if d.n(5) == 0 {
		w.Data, w.Gone = "", true
	}
	return w
}

// pair is a run's sessions and sites, and the same once more for the models.
type pair struct {
	sessions []*session.Session
	models   []*model
	sites    []*site.Site
	twins    []*site.Site
}

func newPair(t *testing.T) *pair {
	p := &pair{}
	for range 3 {
		p.sessions = append(p.sessions, session.New())
		p.models = append(p.models, &model{})
	}
	for id := range 3 {
		p.sites = append(p.sites, made(t, id))
		p.twins = append(p.twins, made(t, id))
	}
	return p
}

// tell lets one site have all that another one has.
func (p *pair) tell(from, to int) {
	for _, tx := range p.sites[from].Missing(p.sites[to].Applied()) {
		_, _ = p.sites[to].Take(tx), p.twins[to].Take(tx)
	}
}

// step does one thing at both: of the client who, at the site at. What it was, and what came of it.
func (p *pair) step(t *testing.T, d *die, who, at int) (string, api.Errno) {
	t.Helper()
	s, m, x, y := p.sessions[who], p.models[who], p.sites[at], p.twins[at]
	what, err, want := "", error(nil), api.OK
	switch d.n(12) {
	case 0, 1:
		what, err, want = "begin", s.Begin(x), m.begin(y)
	case 2, 3:
		key := d.n(api.MaxKeys+2) - 1
		got, e := s.Read(x, key)
		text, no := m.read(y, key)
		what, err, want = "read", e, no
		if got != text {
			t.Errorf("Read(%d) = %q, want %q", key, got, text)
		}
	case 4, 5, 6, 7, 8:
		w := d.write()
		what, err, want = "write", s.Write(w), m.write(w)
	case 9, 10:
		now := d.n(20) - 1
		got, e := s.Commit(x, now)
		tx, no := m.commit(y, now)
		what, err, want = "commit", e, no
		checkTx(t, got, tx)
	default:
		what = "abort"
		if d.n(3) == 0 {
			err, want = s.Abort(), m.abort()
		}
	}
	checkErr(t, what, err, want)
	return what, want
}

// 6.1, 6.2: long runs of several clients, mostly at the site where they began, tell at each step what the document's words tell; they come upon all errors.
func TestLongRuns(t *testing.T) {
	d := die(31)
	came := map[string]int{}
	for run := range 40 {
		p := newPair(t)
		homes := []int{0, 1, 2}
		for range []int{300, 300, 300, 9000}[run%4] {
			who := d.n(len(p.sessions))
			if !p.models[who].open && d.n(3) == 0 {
				homes[who] = d.n(len(p.sites))
			}
			at := homes[who]
			if d.n(15) == 0 {
				at = d.n(len(p.sites))
			}
			what, e := p.step(t, &d, who, at)
			came[fmt.Sprint(what, " ", int(e))]++
			m := p.models[who]
			checkAt(t, p.sessions[who], m.past, m.snap, m.open)
			if d.n(4) == 0 {
				p.tell(d.n(len(p.sites)), d.n(len(p.sites)))
			}
			if t.Failed() {
				t.Fatalf("run %d", run)
			}
		}
		for i := range p.sites {
			if got, want := p.sites[i].Missing(api.Vec{}), p.twins[i].Missing(api.Vec{}); !slices.EqualFunc(got, want, plain.Same) {
				t.Fatalf("run %d: site %d has %v, want %v", run, i, got, want)
			}
		}
	}
	for _, what := range []string{
		"begin 0", "begin 6", "begin 10",
		"read 0", "read 2", "read 6", "read 8", "read 10",
		"write 0", "write 1", "write 2", "write 4", "write 6", "write 12",
		"commit 0", "commit 2", "commit 6", "commit 10", "commit 12",
		"abort 0", "abort 6",
	} {
		if came[what] == 0 {
			t.Errorf("no run came upon %s", what)
		}
	}
}
