package wire_test

import (
	"bytes"
	"fmt"
	"testing"

	"copse/api"
	"copse/plain"
	"copse/wire"
)

// parts are a right transaction's bytes, a number or a value's bytes each.
func parts() [][]byte {
	return [][]byte{
		{'t'}, {1}, {129, 1}, {5}, maxTime, {6}, {128, 1}, {0}, {172, 2}, {3},
		{0}, {0}, {2}, {'a', 'b'},
		{3}, {1}, {0}, {},
		{7}, {0}, {1}, {'c'},
	}
}

// isValue says which of these parts are a value's bytes, not a number.
func isValue(i int) bool { return i == 0 || i == 13 || i == 17 || i == 21 }

// askParts are a right ask's bytes, a number each.
func askParts() [][]byte {
	return [][]byte{{'a'}, {3}, {0}, {127}, {128, 1}, maxTime}
}

// with is bytes that have another part in one place.
func with(l [][]byte, place int, b ...byte) []byte {
	l[place] = b
	return join(l...)
}

// twoKinds are bytes of each kind.
func twoKinds() [][]byte {
	return [][]byte{join(parts()...), join(askParts()...)}
}

// checkNeither: these bytes are of neither kind.
func checkNeither(t *testing.T, what string, b []byte) {
	t.Helper()
	checkNoTx(t, what, b)
	checkNoAsk(t, what, b)
}

// The parts that are spoilt below are right as they stand.
func TestPartsAreRight(t *testing.T) {
	checkTx(t, api.Tx{
		Site:   1,
		Seq:    129,
		Stamp:  api.Stamp{Wall: 5, Count: api.MaxTime},
		Deps:   api.Vec{6, 128, 0, 300},
		Writes: []api.Write{{Key: 0, Data: "ab"}, {Key: 3, Gone: true}, {Key: 7, Data: "c"}},
	}, join(parts()...))
	checkAsk(t, 3, api.Vec{0, 127, 128, api.MaxTime}, join(askParts()...))
}

// 3.2: cut short anywhere, and with bytes behind.
func TestDecodeOfTooFewOrTooMany(t *testing.T) {
	checkNeither(t, "no list", nil)
	for _, b := range twoKinds() {
		for n := range b {
			checkNeither(t, fmt.Sprint("the first ", n), b[:n])
			// What stands behind the list's length is not the list's.
			checkNeither(t, fmt.Sprint("the first ", n, " alone"), bytes.Clone(b[:n]))
			checkNeither(t, fmt.Sprint("all but the first ", n+1), b[n+1:])
		}
		for c := range 256 {
			checkNeither(t, fmt.Sprint("one behind, ", c), append(bytes.Clone(b), byte(c)))
		}
		checkNeither(t, "twice", join(b, b))
		checkNeither(t, "many behind", append(bytes.Clone(b), make([]byte, 5000)...))
	}
}

// 3.2: of the first bytes only its own is right.
func TestDecodeOfTheOtherKind(t *testing.T) {
	for c := range 256 {
		if c != 't' {
			checkNoTx(t, fmt.Sprint("first byte ", c), with(parts(), 0, byte(c)))
		}
		if c != 'a' {
			checkNoAsk(t, fmt.Sprint("first byte ", c), with(askParts(), 0, byte(c)))
		}
	}
	checkNoAsk(t, "a transaction", join(parts()...))
	checkNoTx(t, "an ask", join(askParts()...))
}

// longer is a number in so many bytes more than it needs.
func longer(b []byte, more int) []byte {
	l := bytes.Clone(b)
	l[len(l)-1] += 128
	for range more - 1 {
		l = append(l, 128)
	}
	return append(l, 0)
}

// 3.2: each number in more bytes than it needs, up to where all bits of an int are gone by.
func TestDecodeOfLongNumbers(t *testing.T) {
	for more := 1; more < 25; more++ {
		for i, b := range parts() {
			if !isValue(i) {
				checkNeither(t, fmt.Sprint("part ", i, ", ", more, " more"), with(parts(), i, longer(b, more)...))
			}
		}
		for i, b := range askParts() {
			if i > 0 {
				checkNeither(t, fmt.Sprint("ask's part ", i, ", ", more, " more"), with(askParts(), i, longer(b, more)...))
			}
		}
	}
}

// 3.2: each number with bits behind those that an int has, which must not fall away.
func TestDecodeOfNumbersThatRunOver(t *testing.T) {
	for length := 6; length < 25; length++ {
		for _, last := range []byte{1, 2, 64, 127} {
			n := append(bytes.Repeat([]byte{128}, length), last)
			n[0] = 129
			for i := range parts() {
				if !isValue(i) {
					checkNeither(t, fmt.Sprint("part ", i, " of ", length+1, " bytes"), with(parts(), i, n...))
				}
			}
			for i := 1; i < len(askParts()); i++ {
				checkNeither(t, fmt.Sprint("ask's part ", i, " of ", length+1, " bytes"), with(askParts(), i, n...))
			}
		}
	}
	checkNeither(t, "a number without end", append([]byte{'t', 1}, bytes.Repeat([]byte{255}, 5000)...))
	checkNeither(t, "a number without end", append([]byte{'a', 1}, bytes.Repeat([]byte{255}, 5000)...))
}

// 3.2: numbers in their own bytes that may not be.
func TestDecodeOfWrongNumbers(t *testing.T) {
	above := []byte{129, 128, 128, 128, 128, 32}
	cases := []struct {
		name  string
		place int
		b     []byte
	}{
		{"MaxSites", 1, []byte{api.MaxSites}},
		{"a great site", 1, maxTime},
		{"a site whose Deps are not Seq less 1", 1, []byte{0}},
		{"seq 0", 2, []byte{0}},
		{"seq that is Deps of Site", 2, []byte{128, 1}},
		{"seq that is two above Deps of Site", 2, []byte{130, 1}},
		{"seq above MaxTime", 2, above},
		{"Wall above MaxTime", 3, above},
		{"Count above MaxTime", 4, above},
		{"Deps above MaxTime", 5, above},
		{"Deps of Site above MaxTime", 6, above},
		{"the last Deps above MaxTime", 8, above},
		{"Deps of Site that is Seq", 6, []byte{129, 1}},
		{"Deps of Site that is Seq less 2", 6, []byte{127}},
		{"no writes, and three", 9, []byte{0}},
		{"two writes, and three", 9, []byte{2}},
		{"four writes, and three", 9, []byte{4}},
		{"MaxWrites and one more, and three", 9, []byte{api.MaxWrites + 1}},
		{"very many writes, and three", 9, maxTime},
		{"equal keys", 10, []byte{3}},
		{"falling keys", 10, []byte{4}},
		{"MaxKeys", 18, []byte{api.MaxKeys}},
		{"a great key", 18, maxTime},
		{"a third way to be gone", 11, []byte{2}},
		{"a great way to be gone", 15, []byte{128, 1}},
		{"gone with data", 11, []byte{1}},
		{"a byte fewer than there are", 12, []byte{1}},
		{"a byte more than there are", 20, []byte{2}},
		{"MaxData, of which there are fewer", 20, []byte{api.MaxData}},
		{"very many bytes", 20, maxTime},
	}
	for _, c := range cases {
		checkNeither(t, c.name, with(parts(), c.place, c.b...))
	}
	checkNeither(t, "an ask of MaxSites", with(askParts(), 1, api.MaxSites))
	for i := 2; i < len(askParts()); i++ {
		checkNeither(t, "an ask above MaxTime", with(askParts(), i, above...))
	}
}

// head is a right transaction's bytes up to how many writes there are.
func head(writes int) []byte {
	return []byte{'t', 0, 1, 0, 0, 0, 0, 0, 0, byte(writes)}
}

// 3.2: the bounds of writes, where all else fits together.
func TestDecodeAtTheBoundsOfWrites(t *testing.T) {
	checkNeither(t, "no writes", head(0))
	for n := 1; n < 12; n++ {
		b := head(n)
		for k := range n {
			b = append(b, byte(k), 0, 0)
		}
		if _, err := wire.DecodeTx(b); (err == nil) != (n <= api.MaxWrites) {
			t.Errorf("%d writes: %v", n, err)
		}
	}
	for n := range 200 {
		b := append(head(1), 0, 0)
		if n >= 128 {
			b = append(b, byte(n), 1)
		} else {
			b = append(b, byte(n))
		}
		b = append(b, data(n)...)
		if _, err := wire.DecodeTx(b); (err == nil) != (n <= api.MaxData) {
			t.Errorf("%d bytes of data: %v", n, err)
		}
	}
	for k := range 128 {
		b := append(head(1), byte(k), 0, 0)
		if _, err := wire.DecodeTx(b); (err == nil) != (k < api.MaxKeys) {
			t.Errorf("key %d: %v", k, err)
		}
	}
}

// What is to be true of the whole, 1: what bytes are is that again. Bytes that are read are those that would be written.
func TestBytesAreThatAgain(t *testing.T) {
	read := 0
	for _, b := range twoKinds() {
		for i := range b {
			for c := range 256 {
				near := bytes.Clone(b)
				near[i] = byte(c)
				read += checkAgain(t, near)
			}
		}
	}
	if read < 1000 {
		t.Errorf("of bytes near to right ones, only %d are right", read)
	}
}

// checkAgain is how many of the two kinds these bytes are of.
func checkAgain(t *testing.T, b []byte) int {
	t.Helper()
	kinds := 0
	if x, err := wire.DecodeTx(b); err == nil {
		kinds++
		checkTx(t, x, b)
	} else if got, bare := plain.Bare(err); got != api.ErrForm || !bare {
		t.Errorf("DecodeTx(%v): %v", b, err)
	}
	if site, has, err := wire.DecodeAsk(b); err == nil {
		kinds++
		checkAsk(t, site, has, b)
	} else if got, bare := plain.Bare(err); got != api.ErrForm || !bare {
		t.Errorf("DecodeAsk(%v): %v", b, err)
	}
	return kinds
}
