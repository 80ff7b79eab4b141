package world_test

import (
	"fmt"
	"slices"
	"testing"

	"copse/api"
	"copse/session"
	"copse/site"
	"copse/vector"
	"copse/world"
)

// mail is what is under way to a site: a transaction, or an ask by a site that has so much.
type mail struct {
	to   int
	tx   api.Tx // Seq 0: it is an ask
	from int
	has  api.Vec
}

// model is a world that sends no bytes: the document's words, one by one.
type model struct {
	sites    []*site.Site
	walls    []int
	sessions []*session.Session
	at       []int
	net      []mail
	lost     int
}

func newModel(t *testing.T, sites, clients int) *model {
	t.Helper()
	m := &model{walls: make([]int, sites), at: make([]int, clients)}
	for id := range sites {
		x, err := site.New(id)
		ok(t, "site.New", err)
		m.sites = append(m.sites, x)
	}
	for range clients {
		m.sessions = append(m.sessions, session.New())
	}
	return m
}

// isOf says whether there is a k-th of so many.
func isOf(k, many int) bool { return 0 <= k && k <= many-1 }

func (m *model) begin(k int) error {
	if !isOf(k, len(m.sessions)) {
		return api.ErrRange
	}
	return m.sessions[k].Begin(m.sites[m.at[k]])
}

func (m *model) read(k, key int) (string, error) {
	if !isOf(k, len(m.sessions)) {
		return "", api.ErrRange
	}
	return m.sessions[k].Read(m.sites[m.at[k]], key)
}

func (m *model) write(k int, l api.Write) error {
	if !isOf(k, len(m.sessions)) {
		return api.ErrRange
	}
	return m.sessions[k].Write(l)
}

func (m *model) commit(k int) (api.Tx, error) {
	if !isOf(k, len(m.sessions)) {
		return api.Tx{}, api.ErrRange
	}
	x, err := m.sessions[k].Commit(m.sites[m.at[k]], m.walls[m.at[k]])
	for to := 0; to < len(m.sites) && x.Seq != 0; to++ {
		if to != m.at[k] {
			m.send(mail{to: to, tx: x})
		}
	}
	return x, err
}

func (m *model) abort(k int) error {
	if !isOf(k, len(m.sessions)) {
		return api.ErrRange
	}
	return m.sessions[k].Abort()
}

func (m *model) move(k, to int) error {
	if !isOf(k, len(m.sessions)) || !isOf(to, len(m.sites)) {
		return api.ErrRange
	}
	if m.sessions[k].Open() {
		return api.ErrState
	}
	m.at[k] = to
	return nil
}

func (m *model) goes(k, by int) error {
	if !isOf(k, len(m.sites)) || by < 0 || by > api.MaxTime {
		return api.ErrRange
	}
	m.walls[k] += by
	if m.walls[k] > api.MaxTime {
		m.walls[k] = api.MaxTime
	}
	return nil
}

func (m *model) send(l mail) {
	if len(m.net) == api.MaxNet {
		m.lost++
	} else {
		m.net = append(m.net, l)
	}
}

func (m *model) ask(k, other int) error {
	if !isOf(k, len(m.sites)) || !isOf(other, len(m.sites)) || k == other {
		return api.ErrRange
	}
	m.send(mail{to: other, from: k, has: m.sites[k].Applied()})
	return nil
}

// take takes the i-th out of what is under way.
func (m *model) take(i int) mail {
	l := m.net[i]
	m.net = slices.Concat(m.net[:i], m.net[i+1:])
	return l
}

func (m *model) deliver(i int) error {
	if !isOf(i, len(m.net)) {
		return api.ErrRange
	}
	l := m.take(i)
	x := m.sites[l.to]
	if l.tx.Seq != 0 {
		_ = x.Take(l.tx)
		return nil
	}
	if err := x.Knows(l.from, l.has); err != nil {
		return err
	}
	for _, tx := range x.Missing(l.has) {
		if tx.Site != l.from {
			m.send(mail{to: l.from, tx: tx})
		}
	}
	return nil
}

func (m *model) lose(i int) error {
	if !isOf(i, len(m.net)) {
		return api.ErrRange
	}
	m.take(i)
	return nil
}

func (m *model) twice(i int) error {
	if !isOf(i, len(m.net)) {
		return api.ErrRange
	}
	m.send(m.net[i])
	return nil
}

func (m *model) sweep(k int) error {
	if !isOf(k, len(m.sites)) {
		return api.ErrRange
	}
	by := m.sites[k].Stable(len(m.sites))
	for i, s := range m.sessions {
		if m.at[i] == k && s.Open() {
			by = vector.Min(by, s.Snap())
		}
	}
	m.sites[k].Sweep(by)
	return nil
}

func (m *model) calm() {
	for len(m.net) > 0 {
		_ = m.deliver(0)
	}
	for k := range m.sites {
		for other := range m.sites {
			_ = m.ask(k, other)
			for len(m.net) > 0 {
				_ = m.deliver(0)
			}
		}
	}
}

// checkSame: the world tells what the model tells, of all.
func (m *model) checkSame(t *testing.T, w *world.World) {
	t.Helper()
	checkNet(t, w, len(m.net), m.lost)
	for k, x := range m.sites {
		checkSite(t, w, k, x.Applied(), x.Waits(), x.Many(), x.All()...)
	}
	for k, s := range m.sessions {
		checkClient(t, w, k, m.at[k], s.Past(), s.Snap(), s.Open())
	}
}

// die: numbers that look drawn, the same each time.
type die uint64

func (d *die) n(most int) int {
	*d = *d*6364136223846793005 + 1442695040888963407
	return int(uint64(*d>>33) % uint64(most))
}

// of is one of so many; rarely it is none of them.
func (d *die) of(many int) int {
	if many == 0 || d.n(25) == 0 {
		return []int{-1, many}[d.n(2)]
	}
	return d.n(many)
}

// by is how far a wall goes: mostly a little, rarely very far, and rarely too far.
func (d *die) by() int {
	switch d.n(60) {
	case 0:
		return []int{-1, api.MaxTime + 1}[d.n(2)]
	case 1:
		return api.MaxTime - d.n(3)
	}
	return d.n(4)
}

// write is one of keys about those that there are; most are right.
func (d *die) write() api.Write {
	switch d.n(20) {
	case 0:
		return set(d.of(api.MaxKeys), "0123456789abc")
	case 1:
		return api.Write{Key: d.of(api.MaxKeys), Data: "x", Gone: true}
	case 2, 3, 4, 5:
		return unset(d.of(api.MaxKeys))
	}
	return set(d.of(api.MaxKeys), fmt.Sprint(d.n(1000)))
}

// run is a world beside its model, and what is to hold of it.
type run struct {
	w    *world.World
	m    *model
	held *held
	late bool           // the last ones come ahead of the first ones, mostly
	came map[string]int // how often each error came of each call, and what else is to come
}

func newRun(t *testing.T, sites, clients int, came map[string]int) *run {
	t.Helper()
	return &run{w: made(t, sites, clients), m: newModel(t, sites, clients), held: newHeld(sites, clients), came: came}
}

// notes: both tell the same error.
func (r *run) notes(t *testing.T, what string, got, want error) {
	t.Helper()
	checkErr(t, what, got, api.Tell(want))
	r.came[fmt.Sprint(what, " ", int(api.Tell(want)))]++
}

// client lets a client do one thing, or a whole transaction, at both.
func (r *run) client(t *testing.T, d *die) {
	t.Helper()
	k := d.of(len(r.m.sessions))
	switch d.n(20) {
	case 0, 1:
		r.begins(t, k)
	case 2:
		r.reads(t, k, d.of(api.MaxKeys))
	case 3, 4, 5, 6, 7:
		r.writes(t, k, d.write())
	case 8, 9:
		r.commits(t, k)
	case 10:
		err := r.w.Abort(k)
		r.notes(t, "abort", err, r.m.abort(k))
		r.held.end(k, err)
	case 11:
		to := d.of(len(r.m.sites))
		r.notes(t, "move", r.w.Move(k, to), r.m.move(k, to))
	default:
		r.begins(t, k)
		for range 1 + d.n(3) {
			r.writes(t, k, d.write())
		}
		r.commits(t, k)
	}
}

func (r *run) begins(t *testing.T, k int) {
	t.Helper()
	err := r.w.Begin(k)
	r.notes(t, "begin", err, r.m.begin(k))
	r.held.begin(t, r.w, k, err)
}

func (r *run) reads(t *testing.T, k, key int) {
	t.Helper()
	text, err := r.w.Read(k, key)
	want, e := r.m.read(k, key)
	r.notes(t, "read", err, e)
	if text != want {
		t.Errorf("Read(%d, %d) = %q, want %q", k, key, text, want)
	}
}

func (r *run) writes(t *testing.T, k int, l api.Write) {
	t.Helper()
	err := r.w.Write(k, l)
	r.notes(t, "write", err, r.m.write(k, l))
	r.held.write(k, l, err)
}

func (r *run) commits(t *testing.T, k int) {
	t.Helper()
	_, _, snap, _, _ := r.w.Client(k)
	x, err := r.w.Commit(k)
	want, e := r.m.commit(k)
	r.notes(t, "commit", err, e)
	checkTx(t, x, want)
	r.held.commit(k, x, snap, err)
}

// sites lets sites do one thing, at both.
func (r *run) sites(t *testing.T, d *die) {
	t.Helper()
	w, m, k := r.w, r.m, d.of(len(r.m.sites))
	switch d.n(9) {
	case 0, 1, 2:
		by := d.by()
		r.notes(t, "goes", w.Goes(k, by), m.goes(k, by))
	case 3, 4, 5:
		other := d.of(len(m.sites))
		r.notes(t, "ask", w.Ask(k, other), m.ask(k, other))
	default:
		_, _, _, before, _ := w.Site(k)
		r.notes(t, "sweep", w.Sweep(k), m.sweep(k))
		if _, _, _, left, _ := w.Site(k); left < before {
			r.came["swept"]++
		}
	}
}

// under lets one thing be done with what is under way, at both.
func (r *run) under(t *testing.T, d *die) {
	t.Helper()
	w, m, i := r.w, r.m, d.of(len(r.m.net))
	if r.late {
		i = max(i, len(m.net)-1-d.n(9))
	}
	switch d.n(10) {
	case 0, 1:
		r.notes(t, "lose", w.Lose(i), m.lose(i))
	case 2, 3:
		r.notes(t, "twice", w.Twice(i), m.twice(i))
	default:
		r.notes(t, "deliver", w.Deliver(i), m.deliver(i))
	}
}

// calms lets all be calm, once or twice, at both.
func (r *run) calms(t *testing.T, d *die) {
	t.Helper()
	r.w.Calm()
	r.m.calm()
	if d.n(2) == 0 {
		r.m.checkSame(t, r.w)
		r.w.Calm()
		r.m.calm()
		r.held.same(t, r.w)
		r.came["two calms"]++
	}
}

// step does one thing, at both, and holds all that is promised.
func (r *run) step(t *testing.T, d *die, slow int) {
	t.Helper()
	switch n := d.n(100); {
	case n < 60:
		r.client(t, d)
	case n < 72:
		r.sites(t, d)
	case n < 99:
		if d.n(slow) == 0 {
			r.under(t, d)
		}
	case d.n(2*slow) == 0:
		r.calms(t, d)
	}
	r.m.checkSame(t, r.w)
	r.held.step(t, r.w)
	if r.m.lost > 0 {
		r.came["lost"]++
	}
	for _, x := range r.m.sites {
		if x.Waits() > 0 {
			r.came["waits"]++
		}
		if x.Waits() == api.MaxPending {
			r.came["no room to wait"]++
		}
	}
}

// 7.1 to 7.4: long runs tell, at each step, what the document's words tell, and hold 7.4 while they may; they come upon all errors, upon what waits, and upon no room.
func TestLongRuns(t *testing.T) {
	d := die(37)
	came := map[string]int{}
	for i := range 60 {
		kind := []struct {
			steps, slow int
			late        bool
		}{{200, 1, false}, {500, 1, false}, {900, 2, true}, {1600, 7, false}}[i%4]
		r := newRun(t, 1+d.n(api.MaxSites), d.n(api.MaxClients+1), came)
		r.late = kind.late
		for range kind.steps {
			r.step(t, &d, kind.slow)
			if t.Failed() {
				t.Fatalf("run %d", i)
			}
		}
		r.w.Calm()
		r.w.Calm()
		r.held.same(t, r.w)
	}
	for _, what := range []string{
		"begin 0", "begin 2", "begin 6", "begin 10",
		"read 0", "read 2", "read 6", "read 8",
		"write 0", "write 1", "write 2", "write 4", "write 6", "write 12",
		"commit 0", "commit 2", "commit 6", "commit 12",
		"abort 0", "abort 2", "abort 6", "move 0", "move 2", "move 6",
		"goes 0", "goes 2", "ask 0", "ask 2", "sweep 0", "sweep 2",
		"deliver 0", "deliver 2", "lose 0", "lose 2", "twice 0", "twice 2",
		"two calms", "swept", "lost", "waits", "no room to wait",
	} {
		if came[what] == 0 {
			t.Errorf("no run came upon %s", what)
		}
	}
}
