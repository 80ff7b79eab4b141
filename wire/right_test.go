package wire_test

import (
	"math"
	"strings"
	"testing"

	"copse/api"
	"copse/wire"
)

// data is a value of n bytes.
func data(n int) string { return strings.Repeat("x", n) }

// keys are writes of these keys, each of a short value.
func keys(l ...int) []api.Write {
	var writes []api.Write
	for _, k := range l {
		writes = append(writes, api.Write{Key: k, Data: "v"})
	}
	return writes
}

// tx is a right transaction, with all parts of it other than 0.
func tx() api.Tx {
	return api.Tx{
		Site:   1,
		Seq:    3,
		Stamp:  api.Stamp{Wall: 5, Count: 4},
		Deps:   api.Vec{6, 2, 7, 8},
		Writes: []api.Write{{Key: 0, Data: "ab"}, {Key: 3, Gone: true}, {Key: 7, Data: ""}},
	}
}

// but is a right transaction that is changed.
func but(change func(t *api.Tx)) api.Tx {
	t := tx()
	change(&t)
	return t
}

// numbered is a transaction of that Site and Seq, with Deps that fit.
func numbered(site, seq int) api.Tx {
	return but(func(t *api.Tx) {
		t.Site, t.Seq = site, seq
		if site >= 0 && site < api.MaxSites {
			t.Deps[site] = seq - 1
		}
	})
}

type writesCase struct {
	name   string
	writes []api.Write
	want   bool
}

func writesCases() []writesCase {
	full := data(api.MaxData)
	return []writesCase{
		{"no list", nil, false},
		{"none", []api.Write{}, false},
		{"one", keys(0), true},
		{"two", keys(3, 4), true},
		{"MaxWrites", keys(0, 1, 2, 3, 4), true},
		{"MaxWrites, the last keys", keys(3, 4, 5, 6, 7), true},
		{"one more than MaxWrites", keys(0, 1, 2, 3, 4, 5), false},
		{"as many as there are keys", keys(0, 1, 2, 3, 4, 5, 6, 7), false},
		{"many", make([]api.Write, 1000), false},
		{"equal keys", keys(2, 2), false},
		{"equal keys of 0", keys(0, 0), false},
		{"equal keys behind", keys(0, 1, 1), false},
		{"equal keys apart", keys(1, 2, 1), false},
		{"falling keys", keys(3, 2), false},
		{"falling keys behind", keys(0, 5, 4), false},
		{"the last key", keys(api.MaxKeys - 1), true},
		{"MaxKeys", keys(api.MaxKeys), false},
		{"MaxKeys behind", keys(0, api.MaxKeys), false},
		{"below 0", keys(-1), false},
		{"below 0 ahead", keys(-1, 0), false},
		{"the least int", keys(math.MinInt), false},
		{"the greatest int", keys(math.MaxInt), false},
		{"no data", []api.Write{{Key: 1}}, true},
		{"MaxData", []api.Write{{Key: 1, Data: full}}, true},
		{"one more than MaxData", []api.Write{{Key: 1, Data: full + "x"}}, false},
		{"one more than MaxData behind", []api.Write{{Key: 1}, {Key: 2, Data: full + "x"}}, false},
		{"MaxData bytes that are no text", []api.Write{{Key: 1, Data: strings.Repeat("\xff", api.MaxData)}}, true},
		{"MaxData runes of two bytes", []api.Write{{Key: 1, Data: strings.Repeat("\u00e9", api.MaxData)}}, false},
		{"gone", []api.Write{{Key: 1, Gone: true}}, true},
		{"gone with data", []api.Write{{Key: 1, Gone: true, Data: "v"}}, false},
		{"gone with data behind", []api.Write{{Key: 1, Gone: true}, {Key: 2, Gone: true, Data: full}}, false},
		{"all gone", []api.Write{{Key: 1, Gone: true}, {Key: 2, Gone: true}}, true},
	}
}

// 3.1; and a transaction is right only with right writes.
func TestRightWrites(t *testing.T) {
	for _, c := range writesCases() {
		if got := wire.RightWrites(c.writes); got != c.want {
			t.Errorf("%s: RightWrites = %v, want %v", c.name, got, c.want)
		}
		whole := but(func(t *api.Tx) { t.Writes = c.writes })
		if got := wire.RightTx(whole); got != c.want {
			t.Errorf("%s: RightTx = %v, want %v", c.name, got, c.want)
		}
	}
}

type txCase struct {
	name string
	tx   api.Tx
	want bool
}

func txCases() []txCase {
	return []txCase{
		{"all of it", tx(), true},
		{"nothing", api.Tx{}, false},
		{"site 0", numbered(0, 1), true},
		{"the last site", numbered(api.MaxSites-1, 1), true},
		{"site below 0", numbered(-1, 1), false},
		{"MaxSites", numbered(api.MaxSites, 1), false},
		{"the least int for a site", numbered(math.MinInt, 1), false},
		{"the greatest int for a site", numbered(math.MaxInt, 1), false},
		{"seq 1", numbered(1, 1), true},
		{"seq 2", numbered(1, 2), true},
		{"seq MaxTime", numbered(1, api.MaxTime), true},
		{"seq 0", numbered(1, 0), false},
		{"seq 0 over 0", but(func(t *api.Tx) { t.Seq, t.Deps[1] = 0, 0 }), false},
		{"seq below 0", numbered(1, -1), false},
		{"seq above MaxTime", numbered(1, api.MaxTime+1), false},
		{"the least int for seq", numbered(1, math.MinInt), false},
		{"the greatest int for seq", numbered(1, math.MaxInt), false},
		{"over as many as seq", but(func(t *api.Tx) { t.Deps[1] = 3 }), false},
		{"over two fewer than seq", but(func(t *api.Tx) { t.Deps[1] = 1 }), false},
		{"over none of its own", but(func(t *api.Tx) { t.Deps[1] = 0 }), false},
		{"seq less 1 of another site", but(func(t *api.Tx) { t.Deps = api.Vec{2, 0, 2, 2} }), false},
	}
}

// 3.1
func TestRightTx(t *testing.T) {
	for _, c := range txCases() {
		if got := wire.RightTx(c.tx); got != c.want {
			t.Errorf("%s: RightTx(%v) = %v, want %v", c.name, c.tx, got, c.want)
		}
	}
}

// 3.1: Stamp and Deps at the edges of 1.1 and 2.1.
func TestRightTxOfTimes(t *testing.T) {
	for _, n := range []int{math.MinInt, -1, 0, 1, api.MaxTime, api.MaxTime + 1, math.MaxInt} {
		want := 0 <= n && n <= api.MaxTime
		l := []api.Tx{
			but(func(t *api.Tx) { t.Stamp.Wall = n }),
			but(func(t *api.Tx) { t.Stamp.Count = n }),
			but(func(t *api.Tx) { t.Deps[0] = n }),
			but(func(t *api.Tx) { t.Deps[2] = n }),
			but(func(t *api.Tx) { t.Deps[3] = n }),
		}
		for _, x := range l {
			if got := wire.RightTx(x); got != want {
				t.Errorf("RightTx(%v) = %v, want %v", x, got, want)
			}
		}
	}
}
