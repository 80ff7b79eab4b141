package store_test

import (
	"slices"
	"testing"

	"copse/api"
	"copse/store"
)

// model is a store that keeps no order, and looks at every version each time: the document's words, one by one.
type model []kept

type kept struct {
	key int
	v   api.Version
}

func (m *model) put(key int, v api.Version) api.Errno {
	for _, k := range *m {
		if k.key == key && k.v.Stamp == v.Stamp && k.v.Site == v.Site {
			return api.ErrTwice
		}
	}
	*m = append(*m, kept{key, v})
	return api.OK
}

// last is the place of the last version of a key that a vector has; -1: there is none.
func (m *model) last(key int, at api.Vec) int {
	last := -1
	for i, k := range *m {
		if k.key == key && k.v.Seq <= at[k.v.Site] && (last < 0 || isBelow((*m)[last].v, k.v)) {
			last = i
		}
	}
	return last
}

func isBelow(a, b api.Version) bool {
	if a.Stamp.Wall != b.Stamp.Wall {
		return a.Stamp.Wall < b.Stamp.Wall
	}
	if a.Stamp.Count != b.Stamp.Count {
		return a.Stamp.Count < b.Stamp.Count
	}
	return a.Site < b.Site
}

func (m *model) read(key int, at api.Vec) (api.Version, api.Errno) {
	if i := m.last(key, at); i >= 0 && !(*m)[i].v.Gone {
		return (*m)[i].v, api.OK
	}
	return api.Version{}, api.ErrNone
}

func (m *model) sweep(stable api.Vec) {
	var stays []kept
	for i, k := range *m {
		if k.v.Seq > stable[k.v.Site] || m.last(k.key, stable) == i {
			stays = append(stays, k)
		}
	}
	*m = stays
}

func (m *model) all(at api.Vec) []string {
	l := make([]string, api.MaxKeys)
	for key := range l {
		if v, e := m.read(key, at); e == api.OK {
			l[key] = "=" + v.Data
		}
	}
	return l
}

// checkSame: at a vector, the store tells what the model tells.
func checkSame(t *testing.T, s *store.Store, m *model, at api.Vec) {
	t.Helper()
	for key := range api.MaxKeys {
		if v, e := m.read(key, at); e == api.OK {
			checkRead(t, s, key, at, v)
		} else {
			checkNoRead(t, s, key, at, e)
		}
	}
	if got, want := s.All(at), m.all(at); !slices.Equal(got, want) {
		t.Errorf("All(%v) = %q, want %q", at, got, want)
	}
	if got, want := s.Many(), len(*m); got != want {
		t.Errorf("Many() = %d, want %d", got, want)
	}
}

// die: numbers that look drawn, the same each time.
type die uint64

func (d *die) n(most int) int {
	*d = *d*6364136223846793005 + 1442695040888963407
	return int(uint64(*d>>33) % uint64(most))
}

func (d *die) vec(most int) api.Vec {
	var v api.Vec
	for i := range v {
		v[i] = d.n(most+2) - 1
	}
	return v
}

func (d *die) version() api.Version {
	v := api.Version{Stamp: api.Stamp{Wall: d.n(8), Count: d.n(3)}, Site: d.n(api.MaxSites), Seq: 1 + d.n(6)}
	if v.Gone = d.n(4) == 0; !v.Gone {
		v.Data = string(rune('a' + d.n(26)))
	}
	return v
}

// 4.1, 4.2: long runs of puts and sweeps tell, at each step, what the document's words tell.
func TestLongRuns(t *testing.T) {
	d := die(17)
	for range 60 {
		var s store.Store
		var m model
		for range 120 {
			if d.n(12) == 0 {
				stable := d.vec(6)
				s.Sweep(stable)
				m.sweep(stable)
			} else {
				key, v := d.n(3), d.version()
				checkErr(t, "Put", s.Put(key, v), m.put(key, v))
			}
			checkSame(t, &s, &m, d.vec(6))
		}
		checkSame(t, &s, &m, everything)
	}
}
