package site

import (
	"copse/api"
)

// waiting has what came and may not be applied yet. It is asked by site and number alone, never gone through, so that the order of a map is not seen.
type waiting map[number]api.Tx

// number is a transaction's: the how many-th of which site.
type number struct{ site, seq int }

func (w waiting) put(t api.Tx) {
	w[number{t.Site, t.Seq}] = t
}

func (w waiting) find(site, seq int) (api.Tx, bool) {
	t, found := w[number{site, seq}]
	return t, found
}

func (w waiting) has(site, seq int) bool {
	_, found := w.find(site, seq)
	return found
}

// take is the transaction of that number, which waits no more.
func (w waiting) take(site, seq int) api.Tx {
	t := w[number{site, seq}]
	delete(w, number{site, seq})
	return t
}
