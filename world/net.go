package world

import (
	"slices"

	"copse/api"
	"copse/wire"
)

// datagram is what was sent to a site, as bytes; these are never written into, so that the same ones may be under way twice.
type datagram struct {
	to    int
	bytes []byte
}

// Ask lets a site ask another one for what it has not. ErrRange.
func (w *World) Ask(k, other int) (_ error) {
	if !w.isSite(k) || !w.isSite(other) || k == other {
		return api.ErrRange
	}
	b, err := wire.EncodeAsk(k, w.places[k].site.Applied())
	if err != nil {
		return err
	}
	w.send(datagram{other, b})
	return nil
}

// Deliver brings what is the i-th under way. ErrRange.
func (w *World) Deliver(i int) (_ error) {
	if !w.isUnderWay(i) {
		return api.ErrRange
	}
	// It leaves ahead of what its coming sends, which has its room.
	d := w.net[i]
	w.net = slices.Delete(w.net, i, i+1)
	w.come(d)
	return nil
}

// Lose loses the i-th: it never comes. ErrRange.
func (w *World) Lose(i int) (_ error) {
	if !w.isUnderWay(i) {
		return api.ErrRange
	}
	w.net = slices.Delete(w.net, i, i+1)
	return nil
}

// Twice sends the i-th once more, behind all others. ErrRange.
func (w *World) Twice(i int) (_ error) {
	if !w.isUnderWay(i) {
		return api.ErrRange
	}
	w.send(w.net[i])
	return nil
}

// Calm is a round in which nothing is lost: all that is under way comes, the first one first, with all that is sent by that; then, site by site, each asks each other one, and all comes likewise.
func (w *World) Calm() {
	w.bringAll()
	for k := range w.places {
		for other := range w.places {
			if other != k {
				_ = w.Ask(k, other)
				// Each ask is answered ahead of the next one, so that all answers find room.
				w.bringAll()
			}
		}
	}
}

// Many is how many are under way; Lost how many were lost for want of room.
func (w *World) Many() (_ int) { return len(w.net) }

// Lost is how many were lost for want of room.
func (w *World) Lost() (_ int) { return w.lost }

func (w *World) isUnderWay(i int) bool {
	return i >= 0 && i < len(w.net)
}

func (w *World) send(d datagram) {
	if len(w.net) >= api.MaxNet {
		w.lost++
		return
	}
	w.net = append(w.net, d)
}

// sendTx sends a transaction that a site has: such a one is right, and may be written.
func (w *World) sendTx(to int, t api.Tx) {
	if b, err := wire.EncodeTx(t); err == nil {
		w.send(datagram{to, b})
	}
}

// tellOthers sends a transaction to all sites but its own.
func (w *World) tellOthers(t api.Tx) {
	for to := range w.places {
		if to != t.Site {
			w.sendTx(to, t)
		}
	}
}

// bringAll ends: an ask sends transactions alone, and these send nothing.
func (w *World) bringAll() {
	for len(w.net) > 0 {
		_ = w.Deliver(0)
	}
}

// come lets a site have what was sent to it.
func (w *World) come(d datagram) {
	if t, err := wire.DecodeTx(d.bytes); err == nil {
		// What comes twice, or finds no room, is as if it had been lost: an ask brings it again.
		_ = w.places[d.to].site.Take(t)
		return
	}
	if from, has, err := wire.DecodeAsk(d.bytes); err == nil && w.isSite(from) {
		w.answer(d.to, from, has)
	}
}

// answer notes what another site has, and sends it the rest, but its own: whatever it committed behind its ask it has.
func (w *World) answer(k, other int, has api.Vec) {
	s := w.places[k].site
	_ = s.Knows(other, has)
	for _, t := range s.Missing(has) {
		if t.Site != other {
			w.sendTx(other, t)
		}
	}
}
