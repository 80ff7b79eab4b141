package desk_test

import (
	"fmt"
	"testing"

	"copse/api"
)

// nothing is what a site of no transactions is told as.
const nothing = "0 0 0 0, 0 0,        "

// 8.1: at first there are two sites, and two clients at the first one.
func TestFirstWorld(t *testing.T) {
	checkTalk(t, []said{
		{"many", "0 0"},
		{"site 0", nothing}, {"site 1", nothing}, {"site 2", "error 2"}, {"site -1", "error 2"},
		{"client 0", "0, 0 0 0 0"}, {"client 1", "0, 0 0 0 0"}, {"client 2", "error 2"}, {"client -1", "error 2"},
	})
	// Its walls show 0, so that its first stamp is (0, 1).
	checkTold(t, "begin 1\nwrite 1 0 a\ncommit 1", "begin", "write", "0 1 0 1: 0 0 0 0")
}

// 8.1, and example 7 of DOC.md: what one commits at a site another one reads at another one, when it came there.
func TestExample7(t *testing.T) {
	checkTalk(t, []said{
		{"move 1 1", "move"},
		{"begin 0", "begin"}, {"write 0 2 a", "write"}, {"commit 0", "0 1 0 1: 0 0 0 0"},
		{"begin 1", "begin"}, {"read 1 2", "error 8"}, {"abort 1", "abort"},
		{"many", "1 0"}, {"deliver 0", "deliver"}, {"many", "0 0"},
		{"begin 1", "begin"}, {"read 1 2", "is a"}, {"commit 1", "nothing"},
	})
}

// 8.1, and example 1 of DOC.md: the next one is later, whatever the wall shows.
func TestExample1(t *testing.T) {
	checkTalk(t, []said{
		{"world 1 1", "world"}, {"goes 0 5", "goes"},
		{"begin 0", "begin"}, {"write 0 0 a", "write"}, {"commit 0", "0 1 5 0: 0 0 0 0"},
		{"begin 0", "begin"}, {"write 0 0 b", "write"}, {"commit 0", "0 2 5 1: 1 0 0 0"},
		{"goes 0 1", "goes"},
		{"begin 0", "begin"}, {"write 0 0 c", "write"}, {"commit 0", "0 3 6 0: 2 0 0 0"},
	})
}

// 8.1, and example 4 of DOC.md: a is of site 0, b of site 1, and earlier: who has both reads a, who has b alone reads b.
func TestExample4(t *testing.T) {
	checkTalk(t, []said{
		{"world 2 3", "world"}, {"move 1 1", "move"}, {"move 2 1", "move"}, {"goes 0 5", "goes"}, {"goes 1 3", "goes"},
		{"begin 0", "begin"}, {"write 0 2 a", "write"}, {"begin 1", "begin"}, {"write 1 2 b", "write"},
		{"commit 0", "0 1 5 0: 0 0 0 0"}, {"commit 1", "1 1 3 0: 0 0 0 0"},
		{"begin 1", "begin"}, {"deliver 0", "deliver"}, {"begin 2", "begin"},
		{"client 1", "1, 0 1 0 0, 0 1 0 0"}, {"read 1 2", "is b"},
		{"client 2", "1, 0 0 0 0, 1 1 0 0"}, {"read 2 2", "is a"},
	})
}

// 8.1: what is read is a transaction's own, ahead of what its site has; what is dropped has none.
func TestReadsAndWrites(t *testing.T) {
	checkTalk(t, []said{
		{"begin 0", "begin"}, {"read 0 1", "error 8"}, {"write 0 1 a", "write"}, {"read 0 1", "is a"}, {"write 0 1 b", "write"}, {"read 0 1", "is b"},
		{"begin 1", "begin"}, {"read 1 1", "error 8"}, {"abort 1", "abort"},
		{"drop 0 1", "drop"}, {"read 0 1", "error 8"}, {"write 0 1 c", "write"}, {"commit 0", "0 1 0 1: 0 0 0 0"},
		{"begin 1", "begin"}, {"read 1 1", "is c"}, {"drop 1 1", "drop"}, {"read 1 1", "error 8"}, {"commit 1", "0 2 0 2: 1 0 0 0"},
		{"begin 0", "begin"}, {"read 0 1", "error 8"}, {"write 0 1 d", "write"}, {"abort 0", "abort"},
		{"begin 0", "begin"}, {"read 0 1", "error 8"},
	})
}

// 8.1: a commit that wrote nothing tells so, and sends nothing; one whose writes are Gone wrote.
func TestCommit(t *testing.T) {
	checkTalk(t, []said{
		{"goes 0 12", "goes"},
		{"begin 0", "begin"}, {"commit 0", "nothing"}, {"many", "0 0"}, {"site 0", nothing}, {"commit 0", "error 6"},
		{"begin 0", "begin"}, {"read 0 0", "error 8"}, {"commit 0", "nothing"},
		{"begin 0", "begin"}, {"drop 0 0", "drop"}, {"commit 0", "0 1 12 0: 0 0 0 0"}, {"many", "1 0"},
		{"move 1 1", "move"}, {"goes 1 1099511627776", "goes"},
		{"begin 1", "begin"}, {"write 1 0 a", "write"}, {"commit 1", "1 1 1099511627776 0: 0 0 0 0"},
		{"calm", "calm"},
		{"begin 1", "begin"}, {"commit 1", "nothing"},
		{"begin 0", "begin"}, {"write 0 0 b", "write"}, {"commit 0", "0 2 1099511627776 1: 1 1 0 0"},
	})
	// Deps are MaxSites numbers, whatever the world.
	checkTalk(t, []said{
		{"world 4 4", "world"}, {"move 1 1", "move"}, {"move 2 2", "move"}, {"move 3 3", "move"},
		{"begin 3", "begin"}, {"write 3 0 a", "write"}, {"commit 3", "3 1 0 1: 0 0 0 0"}, {"calm", "calm"},
		{"begin 2", "begin"}, {"write 2 0 a", "write"}, {"commit 2", "2 1 0 2: 0 0 0 1"}, {"calm", "calm"},
		{"begin 1", "begin"}, {"write 1 0 a", "write"}, {"commit 1", "1 1 0 3: 0 0 1 1"}, {"calm", "calm"},
		{"begin 0", "begin"}, {"write 0 0 a", "write"}, {"commit 0", "0 1 0 4: 0 1 1 1"},
	})
}

// 8.1: client tells what it sees, if a transaction is open, and leaves that out if none is.
func TestClient(t *testing.T) {
	checkTalk(t, []said{
		{"client 1", "0, 0 0 0 0"}, {"move 1 1", "move"}, {"client 1", "1, 0 0 0 0"},
		{"begin 0", "begin"}, {"client 0", "0, 0 0 0 0, 0 0 0 0"}, {"write 0 0 a", "write"}, {"client 0", "0, 0 0 0 0, 0 0 0 0"},
		{"commit 0", "0 1 0 1: 0 0 0 0"}, {"client 0", "0, 1 0 0 0"},
		{"begin 1", "begin"}, {"calm", "calm"}, {"client 1", "1, 0 0 0 0, 0 0 0 0"}, {"abort 1", "abort"}, {"client 1", "1, 0 0 0 0"},
		{"begin 1", "begin"}, {"client 1", "1, 0 0 0 0, 1 0 0 0"}, {"abort 1", "abort"}, {"client 1", "1, 1 0 0 0"},
		{"begin 1", "begin"}, {"write 1 0 b", "write"}, {"client 1", "1, 1 0 0 0, 1 0 0 0"}, {"commit 1", "1 1 0 2: 1 0 0 0"}, {"client 1", "1, 1 1 0 0"},
		{"client 0", "0, 1 0 0 0"},
	})
}

// 8.1: site tells what it applied, what waits, how many versions there are, and what each of MaxKeys keys has, with one blank between.
func TestSite(t *testing.T) {
	checkTalk(t, []said{
		{"site 0", "0 0 0 0, 0 0,        "},
		{"begin 0", "begin"}, {"write 0 0 a", "write"}, {"write 0 7 b", "write"}, {"site 0", nothing}, {"commit 0", "0 1 0 1: 0 0 0 0"},
		{"site 0", "1 0 0 0, 0 2, =a       =b"}, {"site 1", nothing},
		{"begin 0", "begin"}, {"write 0 3 =", "write"}, {"write 0 4 d", "write"}, {"drop 0 0", "drop"}, {"commit 0", "0 2 0 2: 1 0 0 0"},
		{"site 0", "2 0 0 0, 0 5,    == =d   =b"},
		{"deliver 1", "deliver"}, {"site 1", "0 0 0 0, 1 0,        "}, {"deliver 0", "deliver"}, {"site 1", "2 0 0 0, 0 5,    == =d   =b"},
		{"begin 1", "begin"}, {"drop 1 3", "drop"}, {"drop 1 4", "drop"}, {"drop 1 7", "drop"}, {"drop 1 5", "drop"}, {"commit 1", "0 3 0 3: 2 0 0 0"},
		{"site 0", "3 0 0 0, 0 9,        "},
	})
	keys := []said{{"world 1 2", "world"}, {"begin 0", "begin"}, {"begin 1", "begin"}}
	for key := range api.MaxKeys {
		keys = append(keys, said{fmt.Sprintf("write %d %d k%d", key/4, key, key), "write"})
	}
	checkTalk(t, append(keys, []said{
		{"commit 1", "0 1 0 1: 0 0 0 0"}, {"commit 0", "0 2 0 2: 1 0 0 0"}, {"site 0", "2 0 0 0, 0 8, =k0 =k1 =k2 =k3 =k4 =k5 =k6 =k7"},
	}...))
}

// 8.1: what is swept is not seen but by how many versions there are.
func TestSweep(t *testing.T) {
	checkTalk(t, []said{
		{"move 1 1", "move"},
		{"begin 0", "begin"}, {"write 0 1 a", "write"}, {"commit 0", "0 1 0 1: 0 0 0 0"}, {"begin 0", "begin"}, {"write 0 1 b", "write"}, {"commit 0", "0 2 0 2: 1 0 0 0"},
		{"sweep 0", "sweep"}, {"site 0", "2 0 0 0, 0 2,  =b      "},
		{"calm", "calm"}, {"calm", "calm"}, {"site 1", "2 0 0 0, 0 2,  =b      "},
		{"sweep 0", "sweep"}, {"site 0", "2 0 0 0, 0 1,  =b      "}, {"site 1", "2 0 0 0, 0 2,  =b      "},
		{"sweep 1", "sweep"}, {"site 1", "2 0 0 0, 0 1,  =b      "},
	})
}

// 8.1: an ask brings what was lost; one that comes twice is as one that came once.
func TestUnderWay(t *testing.T) {
	checkTalk(t, []said{
		{"begin 0", "begin"}, {"write 0 1 a", "write"}, {"commit 0", "0 1 0 1: 0 0 0 0"}, {"many", "1 0"}, {"lose 0", "lose"}, {"many", "0 0"},
		{"calm", "calm"}, {"site 1", "1 0 0 0, 0 1,  =a      "},
		{"begin 0", "begin"}, {"write 0 1 b", "write"}, {"commit 0", "0 2 0 2: 1 0 0 0"}, {"lose 0", "lose"},
		{"ask 1 0", "ask"}, {"many", "1 0"}, {"deliver 0", "deliver"}, {"many", "1 0"}, {"twice 0", "twice"}, {"many", "2 0"},
		{"deliver 1", "deliver"}, {"site 1", "2 0 0 0, 0 2,  =b      "}, {"deliver 0", "deliver"}, {"site 1", "2 0 0 0, 0 2,  =b      "}, {"many", "0 0"},
	})
}

// 8.1: many tells what is under way, and what was lost for want of room.
func TestMany(t *testing.T) {
	l := []said{{"many", "0 0"}}
	for range api.MaxNet {
		l = append(l, said{"ask 0 1", "ask"})
	}
	l = append(l, []said{
		{"many", "300 0"}, {"ask 0 1", "ask"}, {"many", "300 1"}, {"twice 299", "twice"}, {"many", "300 2"},
		{"begin 0", "begin"}, {"write 0 0 a", "write"}, {"commit 0", "0 1 0 1: 0 0 0 0"}, {"many", "300 3"},
		{"lose 0", "lose"}, {"many", "299 3"}, {"twice 0", "twice"}, {"many", "300 3"}, {"calm", "calm"}, {"many", "0 3"},
		{"world 2 2", "world"}, {"many", "0 0"},
	}...)
	checkTalk(t, l)
}

// 8.1: a new world has nothing of the one before.
func TestWorld(t *testing.T) {
	for sites := 1; sites <= api.MaxSites; sites++ {
		for clients := range api.MaxClients + 1 {
			l := []said{
				{"goes 0 9", "goes"}, {"begin 0", "begin"}, {"write 0 0 a", "write"}, {"commit 0", "0 1 9 0: 0 0 0 0"}, {"begin 0", "begin"},
				{fmt.Sprintf("world %d %d", sites, clients), "world"}, {"many", "0 0"},
			}
			for k := range api.MaxSites + 1 {
				l = append(l, there(k < sites, fmt.Sprint("site ", k), nothing))
			}
			for k := range api.MaxClients + 1 {
				l = append(l, there(k < clients, fmt.Sprint("client ", k), "0, 0 0 0 0"))
				l = append(l, there(k < clients, fmt.Sprint("begin ", k), "begin"))
				l = append(l, there(k < clients, fmt.Sprintf("write %d 0 a", k), "write"))
			}
			l = append(l, there(clients > 0, "commit 0", "0 1 0 1: 0 0 0 0"))
			checkTalk(t, l)
		}
	}
}

// there: a line's answer, if there is such a thing, else ErrRange.
func there(is bool, line, told string) said {
	if !is {
		told = "error 2"
	}
	return said{line, told}
}

// 8.1: a world of too few, or too many, is none: the one that is there stays.
func TestWrongWorld(t *testing.T) {
	for _, line := range []string{"world 0 2", "world 5 2", "world -1 2", "world 2 -1", "world 2 7", "world 0 0", "world 5 7", "world 9223372036854775807 1", "world 1 -9223372036854775808"} {
		checkWrong(t, line, api.ErrRange)
		checkTold(t, line+"\nclient 1\nclient 2\nsite 1\nsite 2", "error 2", "0, 0 0 0 0", "error 2", nothing, "error 2")
	}
	for _, line := range []string{"world", "world 2", "world 2 2 2", "world x 2", "world 2 x", "world two two"} {
		checkWrong(t, line, api.ErrForm)
	}
}

// 8.1: the errors that lines can have, each with its number; nothing is changed by them.
func TestErrors(t *testing.T) {
	for _, w := range []struct {
		e     api.Errno
		lines []string
	}{
		{api.ErrRange, []string{"begin 6", "begin -1", "write 6 0 a", "write 0 8 a", "write 0 -1 a", "drop 6 0", "drop 0 8", "drop 0 -1", "abort 6", "abort -1", "read 6 0", "read -1 0", "read 0 8", "read 0 -1", "commit 6", "commit -1"}},
		{api.ErrRange, []string{"move 6 0", "move -1 0", "move 3 4", "move 3 -1", "move 0 4", "goes 4 1", "goes -1 1", "goes 0 -1", "goes 0 1099511627777", "sweep 4", "sweep -1", "site 4", "site -1", "client 6", "client -1"}},
		{api.ErrRange, []string{"ask 0 0", "ask 3 3", "ask 4 0", "ask 0 4", "ask -1 0", "ask 0 -1", "deliver 5", "deliver -1", "lose 5", "lose -1", "twice 5", "twice -1"}},
		{api.ErrState, []string{"begin 0", "begin 2", "write 3 0 a", "drop 3 0", "abort 3", "move 0 0", "move 0 1", "read 3 0", "commit 3", "write 5 9 0123456789abc", "read 4 9"}},
		{api.ErrOrder, []string{"begin 5"}},
		{api.ErrNone, []string{"read 0 7", "read 1 0", "read 1 1"}},
		{api.ErrFull, []string{"write 2 5 a", "drop 2 6"}},
		{api.ErrLimit, []string{"write 0 0 0123456789abc", "write 2 5 0123456789abc"}},
	} {
		for _, line := range w.lines {
			checkWrong(t, line, w.e)
		}
	}
}

// 8.1: behind MaxLog transactions a commit is ErrFull, and its client stays open, with what it wrote.
func TestFullLog(t *testing.T) {
	var l []said
	for i := range api.MaxLog {
		l = append(l, said{"begin 0", "begin"}, said{"write 0 1 a", "write"}, said{"commit 0", fmt.Sprintf("0 %d 0 %d: %d 0 0 0", i+1, i+1, i)})
	}
	checkTalk(t, append(l, []said{
		{"begin 0", "begin"}, {"write 0 1 b", "write"}, {"commit 0", "error 12"}, {"client 0", "0, 200 0 0 0, 200 0 0 0"}, {"read 0 1", "is b"}, {"many", "200 0"},
		{"abort 0", "abort"}, {"begin 0", "begin"}, {"read 0 1", "is a"}, {"commit 0", "nothing"}, {"site 0", "200 0 0 0, 0 200,  =a      "},
	}...))
}

// 8.1: a client begins where all that it did has come, and not elsewhere.
func TestOrder(t *testing.T) {
	checkTalk(t, []said{
		{"begin 0", "begin"}, {"write 0 1 a", "write"}, {"move 0 1", "error 6"}, {"commit 0", "0 1 0 1: 0 0 0 0"}, {"move 0 1", "move"},
		{"begin 0", "error 10"}, {"read 0 1", "error 6"}, {"client 0", "1, 1 0 0 0"}, {"deliver 0", "deliver"}, {"begin 0", "begin"}, {"read 0 1", "is a"},
	})
}
