package wire_test

import (
	"bytes"
	"math"
	"slices"
	"testing"

	"copse/api"
	"copse/plain"
	"copse/wire"
)

// checkErr holds an error against what is wanted; it has no place (P3).
func checkErr(t *testing.T, what string, err error, want api.Errno) {
	t.Helper()
	if got, bare := plain.Bare(err); got != want || !bare {
		t.Errorf("%s: error %d (bare: %v), want %d", what, got, bare, want)
	}
}

// checkTx: the transaction is written so, and what is written so is that again.
func checkTx(t *testing.T, x api.Tx, want []byte) {
	t.Helper()
	b, err := wire.EncodeTx(x)
	checkErr(t, "EncodeTx", err, api.OK)
	if !bytes.Equal(b, want) {
		t.Errorf("EncodeTx(%v) = %v, want %v", x, b, want)
	}
	got, err := wire.DecodeTx(want)
	checkErr(t, "DecodeTx", err, api.OK)
	if !plain.Same(got, x) {
		t.Errorf("DecodeTx(%v) = %v, want %v", want, got, x)
	}
}

// checkAsk is checkTx of what a site has.
func checkAsk(t *testing.T, site int, has api.Vec, want []byte) {
	t.Helper()
	b, err := wire.EncodeAsk(site, has)
	checkErr(t, "EncodeAsk", err, api.OK)
	if !bytes.Equal(b, want) {
		t.Errorf("EncodeAsk(%d, %v) = %v, want %v", site, has, b, want)
	}
	at, got, err := wire.DecodeAsk(want)
	checkErr(t, "DecodeAsk", err, api.OK)
	if at != site || got != has {
		t.Errorf("DecodeAsk(%v) = %d, %v, want %d, %v", want, at, got, site, has)
	}
}

// checkNoTx: these bytes are no transaction's; what else is answered is nothing (P2).
func checkNoTx(t *testing.T, what string, b []byte) {
	t.Helper()
	got, err := wire.DecodeTx(b)
	checkErr(t, "DecodeTx of "+what, err, api.ErrForm)
	if !plain.Same(got, api.Tx{}) {
		t.Errorf("DecodeTx of %s = %v, want nothing", what, got)
	}
}

// checkNoAsk is checkNoTx of what a site has.
func checkNoAsk(t *testing.T, what string, b []byte) {
	t.Helper()
	site, has, err := wire.DecodeAsk(b)
	checkErr(t, "DecodeAsk of "+what, err, api.ErrForm)
	if site != 0 || has != (api.Vec{}) {
		t.Errorf("DecodeAsk of %s = %d, %v, want nothing", what, site, has)
	}
}

// join lays bytes one behind the other.
func join(l ...[]byte) []byte { return slices.Concat(l...) }

// maxTime is MaxTime as it is written: the bit 40 is the bit 5 of the sixth byte.
var maxTime = []byte{128, 128, 128, 128, 128, 32}

// beforeMaxTime is MaxTime less 1 as it is written.
var beforeMaxTime = []byte{255, 255, 255, 255, 255, 31}

// spelled are numbers as they are written.
var spelled = []struct {
	n int
	b []byte
}{
	{0, []byte{0}},
	{1, []byte{1}},
	{127, []byte{127}},
	{128, []byte{128, 1}},
	{129, []byte{129, 1}},
	{255, []byte{255, 1}},
	{256, []byte{128, 2}},
	{300, []byte{172, 2}},
	{16383, []byte{255, 127}},
	{16384, []byte{128, 128, 1}},
	{1 << 35, []byte{128, 128, 128, 128, 128, 1}},
	{1<<35 - 1, []byte{255, 255, 255, 255, 127}},
	{api.MaxTime - 1, beforeMaxTime},
	{api.MaxTime, maxTime},
}

// 3.2: every part in its place.
func TestTxIsWritten(t *testing.T) {
	checkTx(t, tx(), []byte{
		't', 1, 3, 5, 4, 6, 2, 7, 8, 3,
		0, 0, 2, 'a', 'b',
		3, 1, 0,
		7, 0, 0,
	})
	checkTx(t, api.Tx{Seq: 1, Writes: keys(0)}, []byte{'t', 0, 1, 0, 0, 0, 0, 0, 0, 1, 0, 0, 1, 'v'})
}

// Example 4 of the document: what the two sites tell of a and of b.
func TestTxOfTheDocument(t *testing.T) {
	a := api.Tx{Site: 0, Seq: 1, Stamp: api.Stamp{Wall: 5}, Writes: []api.Write{{Key: 2, Data: "a"}}}
	b := api.Tx{Site: 1, Seq: 1, Stamp: api.Stamp{Wall: 3}, Writes: []api.Write{{Key: 2, Data: "b"}}}
	checkTx(t, a, []byte{'t', 0, 1, 5, 0, 0, 0, 0, 0, 1, 2, 0, 1, 'a'})
	checkTx(t, b, []byte{'t', 1, 1, 3, 0, 0, 0, 0, 0, 1, 2, 0, 1, 'b'})
}

// 3.2: each number of a transaction that may be great, in as many bytes as it needs.
func TestNumbersOfATx(t *testing.T) {
	tail := []byte{1, 0, 0, 1, 'v'}
	for _, s := range spelled {
		x := api.Tx{Site: 2, Seq: 1, Writes: keys(0)}
		x.Stamp.Wall = s.n
		checkTx(t, x, join([]byte{'t', 2, 1}, s.b, []byte{0, 0, 0, 0, 0}, tail))
		x.Stamp = api.Stamp{Count: s.n}
		checkTx(t, x, join([]byte{'t', 2, 1, 0}, s.b, []byte{0, 0, 0, 0}, tail))
		x.Stamp = api.Stamp{}
		x.Deps = api.Vec{s.n, s.n, 0, s.n}
		checkTx(t, x, join([]byte{'t', 2, 1, 0, 0}, s.b, s.b, []byte{0}, s.b, tail))
	}
}

// 3.2: Seq, and Deps of Site with it, in as many bytes as they need.
func TestSeqsOfATx(t *testing.T) {
	cases := []struct {
		seq        int
		this, less []byte
	}{
		{1, []byte{1}, []byte{0}},
		{127, []byte{127}, []byte{126}},
		{128, []byte{128, 1}, []byte{127}},
		{129, []byte{129, 1}, []byte{128, 1}},
		{16384, []byte{128, 128, 1}, []byte{255, 127}},
		{api.MaxTime, maxTime, beforeMaxTime},
	}
	for _, c := range cases {
		x := api.Tx{Site: 3, Seq: c.seq, Deps: api.Vec{3: c.seq - 1}, Writes: keys(0)}
		checkTx(t, x, join([]byte{'t', 3}, c.this, []byte{0, 0, 0, 0, 0}, c.less, []byte{1, 0, 0, 1, 'v'}))
	}
}

// 3.2: what a site has, at each place.
func TestAskIsWritten(t *testing.T) {
	checkAsk(t, 0, api.Vec{}, []byte{'a', 0, 0, 0, 0, 0})
	checkAsk(t, 2, api.Vec{1, 2, 3, 4}, []byte{'a', 2, 1, 2, 3, 4})
	checkAsk(t, api.MaxSites-1, api.Vec{128, 0, 300, 127}, []byte{'a', 3, 128, 1, 0, 172, 2, 127})
	for _, s := range spelled {
		checkAsk(t, 1, api.Vec{s.n, 0, s.n, s.n}, join([]byte{'a', 1}, s.b, []byte{0}, s.b, s.b))
	}
}

// 3.2: what is not right is not written, and what is right is read again.
func TestRightTxAreWritten(t *testing.T) {
	cases := txCases()
	for _, c := range writesCases() {
		cases = append(cases, txCase{c.name, but(func(t *api.Tx) { t.Writes = c.writes }), c.want})
	}
	for _, n := range []int{math.MinInt, -1, api.MaxTime + 1, math.MaxInt} {
		cases = append(cases,
			txCase{"Wall", but(func(t *api.Tx) { t.Stamp.Wall = n }), false},
			txCase{"Count", but(func(t *api.Tx) { t.Stamp.Count = n }), false},
			txCase{"Deps", but(func(t *api.Tx) { t.Deps[2] = n }), false})
	}
	for _, c := range cases {
		b, err := wire.EncodeTx(c.tx)
		if c.want {
			checkTx(t, c.tx, b)
			continue
		}
		checkErr(t, "EncodeTx of "+c.name, err, api.ErrArg)
		if len(b) > 0 {
			t.Errorf("EncodeTx of %s = %v, want nothing", c.name, b)
		}
	}
}

// 3.2
func TestWrongAskIsNotWritten(t *testing.T) {
	cases := []struct {
		site int
		has  api.Vec
	}{
		{-1, api.Vec{}},
		{api.MaxSites, api.Vec{}},
		{math.MinInt, api.Vec{}},
		{math.MaxInt, api.Vec{}},
		{0, api.Vec{-1}},
		{0, api.Vec{0, 0, 0, -1}},
		{0, api.Vec{api.MaxTime + 1}},
		{0, api.Vec{0, 0, api.MaxTime + 1}},
		{0, api.Vec{0, math.MinInt}},
		{0, api.Vec{0, math.MaxInt}},
		{api.MaxSites, api.Vec{-1}},
	}
	for _, c := range cases {
		b, err := wire.EncodeAsk(c.site, c.has)
		checkErr(t, "EncodeAsk", err, api.ErrArg)
		if len(b) > 0 {
			t.Errorf("EncodeAsk(%d, %v) = %v, want nothing", c.site, c.has, b)
		}
	}
}

// P4: what is handed in stays as it is, what comes out is of its own.
func TestNothingIsShared(t *testing.T) {
	room := append(tx().Writes, api.Write{Key: 9, Data: "behind"})
	x := but(func(t *api.Tx) { t.Writes = room[:3] })
	b, _ := wire.EncodeTx(x)
	again, _ := wire.EncodeTx(x)
	if !plain.Same(x, tx()) || room[3] != (api.Write{Key: 9, Data: "behind"}) {
		t.Errorf("EncodeTx changed what it was given: %v", room)
	}
	got, _ := wire.DecodeTx(b)
	if !bytes.Equal(b, again) {
		t.Errorf("DecodeTx changed what it was given: %v, was %v", b, again)
	}
	clear(b)
	if !plain.Same(got, tx()) {
		t.Errorf("DecodeTx keeps what it was given: %v", got)
	}
	if b, _ := wire.EncodeTx(x); !bytes.Equal(b, again) {
		t.Errorf("EncodeTx keeps what it answered: %v, was %v", b, again)
	}
}
