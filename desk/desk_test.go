package desk_test

import (
	"fmt"
	"slices"
	"strings"
	"testing"

	"copse/api"
	"copse/desk"
)

// said is a line, and what it is answered.
type said struct{ line, told string }

// textOf is a text of lines, each with its line feed.
func textOf(lines ...string) string {
	return strings.Join(lines, "\n") + "\n"
}

// answers are a text's, line by line; each ends with a line feed.
func answers(t *testing.T, text string) []string {
	t.Helper()
	told := desk.Session(text)
	if !strings.HasSuffix(told, "\n") {
		t.Fatalf("Session(%.200q) = %.200q: no line feed at its end", text, told)
	}
	return strings.Split(told[:len(told)-1], "\n")
}

// checkTold: a text is answered by these lines.
func checkTold(t *testing.T, text string, want ...string) {
	t.Helper()
	if got := answers(t, text); !slices.Equal(got, want) {
		t.Errorf("Session(%.200q): %.400q, want %.400q", text, got, want)
	}
}

// checkTalk: the lines of one session are answered so.
func checkTalk(t *testing.T, l []said) {
	t.Helper()
	var lines []string
	for _, s := range l {
		lines = append(lines, s.line)
	}
	got := answers(t, textOf(lines...))
	if len(got) != len(l) {
		t.Fatalf("%d lines are answered by %d", len(l), len(got))
	}
	for i, s := range l {
		if got[i] != s.told {
			t.Errorf("line %d, %q: %q, want %q", i, s.line, got[i], s.told)
		}
	}
}

func wrong(e api.Errno) string { return fmt.Sprintf("error %d", int(e)) }

// setUp is a world of four sites, and six clients of which the first three are open, and wrote; what was committed is under way, and a part of it has come; the last one is where what it did has not come.
func setUp() []string {
	return []string{
		"world 4 6", "move 1 1", "move 4 1", "goes 0 7", "goes 1 3",
		"begin 5", "write 5 0 a", "write 5 1 b", "commit 5", "begin 4", "write 4 0 c", "commit 4", "deliver 3", "lose 1", "twice 1",
		"begin 0", "begin 1", "begin 2", "write 0 2 d", "drop 1 0", "write 2 0 e", "write 2 1 f", "write 2 2 g", "write 2 3 h", "write 2 4 i", "move 5 2",
	}
}

// looks are lines that show all that a world has: also its walls, and what is open, by what comes of them.
func looks() []string {
	l := []string{"many", "help"}
	for _, line := range []string{"site %d", "client %d", "read %d 0", "read %d 2", "read %d 5", "commit %d", "sweep %d", "begin %d", "write %d 6 x", "commit %d", "deliver %d", "site %d"} {
		for k := range api.MaxClients {
			l = append(l, fmt.Sprintf(line, k))
		}
	}
	return append(l, "many", "calm", "calm", "many", "site 0", "site 1", "site 2", "site 3")
}

// checkWrong: behind setUp a line is answered an error, and those behind it as if it were not there.
func checkWrong(t *testing.T, line string, e api.Errno) {
	t.Helper()
	without := answers(t, textOf(slices.Concat(setUp(), looks())...))
	with := answers(t, textOf(slices.Concat(setUp(), []string{line}, looks())...))
	at := len(setUp())
	if len(with) != len(without)+1 || with[at] != wrong(e) {
		t.Fatalf("%q: %q, want %q", line, with[min(at, len(with)-1)], wrong(e))
	}
	for i, told := range slices.Delete(with, at, at+1) {
		if told != without[i] {
			t.Errorf("behind %q %q is answered %q, want %q", line, slices.Concat(setUp(), looks())[i], told, without[i])
		}
	}
}

// 8.1: how a text is cut into lines.
func TestLines(t *testing.T) {
	checkTold(t, "", "ok")
	checkTold(t, "\n", "ok")
	checkTold(t, "\n\n", "ok", "ok")
	checkTold(t, "\n\n\n", "ok", "ok", "ok")
	checkTold(t, "calm", "calm")
	checkTold(t, "calm\n", "calm")
	checkTold(t, "calm\n\n", "calm", "ok")
	checkTold(t, "\ncalm", "ok", "calm")
	checkTold(t, "\ncalm\n", "ok", "calm")
	checkTold(t, "calm\nmany", "calm", "0 0")
	checkTold(t, "calm\nmany\n", "calm", "0 0")
	checkTold(t, "calm\n\nmany\n", "calm", "ok", "0 0")
	checkTold(t, "x\n", "error 3")
}

// 8.1: only a line feed ends a line.
func TestOtherEnds(t *testing.T) {
	for _, end := range []string{"\r\n", "\n\r", "\r", "\v", "\f", "\x00", "\u0085", "\u2028", "\u2029"} {
		lines := strings.Count(end, "\n") + 1
		got := answers(t, "calm"+end+"calm")
		if len(got) != lines || slices.Equal(got, []string{"calm", "calm"}) {
			t.Errorf("an end %q: %q", end, got)
		}
	}
	checkTold(t, "calm\r\nmany", "error 3", "0 0")
	checkTold(t, "calm\r", "error 3")
	checkTold(t, "\r\n", "error 3")
}

// 8.1: a text has MaxText bytes at most.
func TestMaxText(t *testing.T) {
	feeds := strings.Repeat("\n", api.MaxText)
	if got := answers(t, feeds); len(got) != api.MaxText || slices.IndexFunc(got, func(s string) bool { return s != "ok" }) >= 0 {
		t.Errorf("%d line feeds: %d lines", len(feeds), len(got))
	}
	most := "begin 0\n" + strings.Repeat(" ", api.MaxText-len("begin 0\n")-len("client 0")) + "client 0"
	checkTold(t, most, "begin", "0, 0 0 0 0, 0 0 0 0")
	for _, text := range []string{feeds, most, strings.Repeat("x", api.MaxText), strings.Repeat(" ", api.MaxText)} {
		if got := desk.Session(text); got == "error 4\n" {
			t.Errorf("%d bytes: %q", len(text), got)
		}
		for _, more := range []string{"\n", " ", "x", strings.Repeat("\n", 100_000)} {
			checkTold(t, text+more, "error 4")
			checkTold(t, more+text, "error 4")
		}
	}
	// Bytes are counted, and not signs.
	checkTold(t, strings.Repeat("ä", api.MaxText/2), "error 3")
	checkTold(t, strings.Repeat("ä", api.MaxText/2)+"x", "error 4")
	checkTold(t, strings.Repeat("\n", api.MaxText+1), "error 4")
}

// 8.1: blanks stand between words, and at both ends; a line without words is answered ok.
func TestBlanks(t *testing.T) {
	checkTold(t, " ", "ok")
	checkTold(t, "     \n \n", "ok", "ok")
	checkTold(t, " calm", "calm")
	checkTold(t, "calm ", "calm")
	checkTold(t, "   calm    \n", "calm")
	checkTalk(t, []said{
		{"  begin   0", "begin"},
		{"write    0  1      a  ", "write"},
		{" read 0   1 ", "is a"},
		{"   client     0   ", "0, 0 0 0 0, 0 0 0 0"},
	})
}

// 8.1: signs that are white, but no blank, are signs of a word.
func TestOtherWhite(t *testing.T) {
	for _, sign := range []string{"\t", "\r", "\v", "\f", "\x00", "\u0085", "\u00a0", "\u1680", "\u2003", "\u2028", "\u202f", "\u3000", "\ufeff", "\x85", "\xa0"} {
		for _, line := range []string{sign, sign + "calm", "calm" + sign, sign + " calm", "calm " + sign, "begin" + sign + "0", "begin 0" + sign, "begin " + sign + "0", " " + sign + " "} {
			checkTold(t, line, "error 3")
		}
		data := "a" + sign + "b" + sign
		checkTalk(t, []said{{"begin 0", "begin"}, {"write 0 1 " + data, "write"}, {"read 0 1", "is " + data}, {"write 0 2 " + sign, "write"}, {"read 0 2", "is " + sign}})
	}
}

// 8.1: each word has just so many words behind it.
func TestForms(t *testing.T) {
	forms := []said{
		{"abort 0", "abort"}, {"ask 0 1", "ask"}, {"begin 3", "begin"}, {"calm", "calm"}, {"client 3", "0, 0 0 0 0"}, {"commit 0", "0 2 7 1: 1 1 0 0"},
		{"deliver 0", "deliver"}, {"drop 0 1", "drop"}, {"goes 0 1", "goes"}, {"lose 0", "lose"}, {"many", "5 0"}, {"move 3 1", "move"}, {"read 0 2", "is d"},
		{"site 2", "0 0 0 0, 0 0,        "}, {"sweep 0", "sweep"}, {"twice 0", "twice"}, {"world 1 1", "world"}, {"write 0 3 9", "write"},
		{"help", "abort ask begin calm client commit deliver drop goes help lose many move read site sweep twice world write"},
	}
	for _, f := range forms {
		got := answers(t, textOf(append(setUp(), f.line)...))
		if told := got[len(got)-1]; told != f.told {
			t.Errorf("%q: %q, want %q", f.line, told, f.told)
		}
		words := strings.Fields(f.line)
		for n := 1; n < len(words); n++ {
			checkWrong(t, strings.Join(words[:n], " "), api.ErrForm)
		}
		for _, more := range []string{"0", "1", "x", f.line, "0 0 0 0"} {
			checkWrong(t, f.line+" "+more, api.ErrForm)
		}
	}
}

// 8.1: a first word that is none of the table's.
func TestFirstWords(t *testing.T) {
	for _, word := range []string{"x", "0", "-1", "Begin", "BEGIN", "beginn", "begi", "ok", "error", "nothing", "is", "begin,", ",", ":", "new", "put", "\xff", "bégin", "\x00"} {
		for _, rest := range []string{"", " 0", " 0 1", " 0 1 a", " 0 1 a b"} {
			checkWrong(t, word+rest, api.ErrForm)
		}
	}
}

// 8.1, P5: what is a number, and what is none.
func TestNumbers(t *testing.T) {
	none := []string{"00", "01", "007", "-0", "-00", "-01", "+0", "+1", "-", "+", "--1", "-+1", "x", "0x1", "0b1", "0o1", "1_0", "1.0", "1e0", "1,", ",1", "a", "1a", "a1", "0-", "1-", "\"1\"", "½", "\u0661", "\uff11",
		"9223372036854775808", "-9223372036854775809", "18446744073709551615", "18446744073709551616", "99999999999999999999999999", "-99999999999999999999999999", "09223372036854775807", strings.Repeat("9", 5000), strings.Repeat("0", 5000)}
	beyond := []string{"-1", "9", "-9", "10", "2147483648", "4294967296", "9223372036854775807", "-9223372036854775808", "-9223372036854775807", "1099511627777"}
	for _, form := range []string{"world # 2", "world 2 #", "begin #", "write # 2 a", "write 0 # a", "drop # 2", "drop 0 #", "abort #", "move # 1", "move 5 #", "goes # 1", "ask # 1", "ask 1 #", "deliver #", "lose #", "twice #", "sweep #", "read # 2", "read 0 #", "commit #", "site #", "client #"} {
		for _, number := range none {
			checkWrong(t, strings.ReplaceAll(form, "#", number), api.ErrForm)
		}
		for _, number := range beyond {
			checkWrong(t, strings.ReplaceAll(form, "#", number), api.ErrRange)
		}
	}
	for _, number := range none {
		checkWrong(t, "goes 0 "+number, api.ErrForm)
	}
	for _, number := range []string{"-1", "1099511627777", "9223372036854775807", "-9223372036854775808"} {
		checkWrong(t, "goes 0 "+number, api.ErrRange)
	}
	checkTold(t, "goes 0 0\ngoes 0 1099511627776\ngoes 0 10", "goes", "goes", "goes")
}

// 8.1: a line of another form is ErrForm, whatever else is wrong with it.
func TestFormIsFirst(t *testing.T) {
	for _, line := range []string{"begin 9 9", "write 9 9 0123456789abc x", "write 9 x 0123456789abc", "write x 9 a", "read 9 x", "move 0 x", "move 9 -0", "goes 9 x", "ask 0 0 0", "ask 1 01", "world 0 x", "world 9", "commit 9 0", "deliver 9999 1", "site 9 9", "client -1 -"} {
		checkWrong(t, line, api.ErrForm)
	}
}

// 8.1: DATA is any word: one that looks like a number, too, and of bytes that are no signs.
func TestData(t *testing.T) {
	for _, data := range []string{"a", "0", "-1", "007", "-0", "99999999999", "read", "=", "==a", ",", ":", ", :", "is", "\"", "ä€", "\xff", "\xc3\x28", "\x00", "\x80\x80", "0123456789ab", "\xff\xfe\xfd\xfc\xfb\xfa\xf9\xf8\xf7\xf6\xf5\xc0", "\u20ac\u20ac\u20ac\u20ac"} {
		if strings.Contains(data, " ") {
			checkWrong(t, "write 0 1 "+data, api.ErrForm)
			continue
		}
		checkTalk(t, []said{
			{"begin 0", "begin"}, {"write 0 7 " + data, "write"}, {"read 0 7", "is " + data}, {"commit 0", "0 1 0 1: 0 0 0 0"},
			{"site 0", "1 0 0 0, 0 1,        =" + data}, {"move 1 1", "move"}, {"deliver 0", "deliver"}, {"begin 1", "begin"}, {"read 1 7", "is " + data},
		})
	}
	for _, data := range []string{"0123456789abc", "9223372036854775808", "\u20ac\u20ac\u20ac\u20ac\x80", strings.Repeat("x", 19_000)} {
		checkTold(t, "begin 0\nwrite 0 7 "+data+"\nread 0 7", "begin", "error 4", "error 8")
	}
	checkWrong(t, "write 0 2 0123456789abc", api.ErrLimit)
}
