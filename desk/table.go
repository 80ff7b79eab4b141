package desk

import (
	"maps"
	"slices"
	"strings"

	"copse/api"
)

// table is what lines do, by their first words: each takes the words behind it, and tells what the line is answered.
func (c *clerk) table() map[string]func(rest []string) string {
	return map[string]func(rest []string) string{
		"abort":   c.abort,
		"ask":     c.ask,
		"begin":   c.begin,
		"calm":    c.calm,
		"client":  c.client,
		"commit":  c.commit,
		"deliver": c.deliver,
		"drop":    c.drop,
		"goes":    c.goes,
		"help":    c.help,
		"lose":    c.lose,
		"many":    c.many,
		"move":    c.move,
		"read":    c.read,
		"site":    c.site,
		"sweep":   c.sweep,
		"twice":   c.twice,
		"world":   c.newWorld,
		"write":   c.write,
	}
}

func (c *clerk) newWorld(rest []string) string {
	c.makeWorld(two(rest))
	return "world"
}

func (c *clerk) begin(rest []string) string {
	must(c.world.Begin(one(rest)))
	return "begin"
}

// write takes any word as data, also one that looks like a number.
func (c *clerk) write(rest []string) string {
	if len(rest) != 3 {
		panic(api.ErrForm)
	}
	k, key := two(rest[:2])
	must(c.world.Write(k, api.Write{Key: key, Data: rest[2]}))
	return "write"
}

func (c *clerk) drop(rest []string) string {
	k, key := two(rest)
	must(c.world.Write(k, api.Write{Key: key, Gone: true}))
	return "drop"
}

func (c *clerk) abort(rest []string) string {
	must(c.world.Abort(one(rest)))
	return "abort"
}

func (c *clerk) move(rest []string) string {
	must(c.world.Move(two(rest)))
	return "move"
}

func (c *clerk) goes(rest []string) string {
	must(c.world.Goes(two(rest)))
	return "goes"
}

func (c *clerk) ask(rest []string) string {
	must(c.world.Ask(two(rest)))
	return "ask"
}

func (c *clerk) deliver(rest []string) string {
	must(c.world.Deliver(one(rest)))
	return "deliver"
}

func (c *clerk) lose(rest []string) string {
	must(c.world.Lose(one(rest)))
	return "lose"
}

func (c *clerk) twice(rest []string) string {
	must(c.world.Twice(one(rest)))
	return "twice"
}

func (c *clerk) sweep(rest []string) string {
	must(c.world.Sweep(one(rest)))
	return "sweep"
}

func (c *clerk) calm(rest []string) string {
	none(rest)
	c.world.Calm()
	return "calm"
}

func (c *clerk) read(rest []string) string {
	data, err := c.world.Read(two(rest))
	must(err)
	return "is " + data
}

func (c *clerk) commit(rest []string) string {
	t, err := c.world.Commit(one(rest))
	must(err)
	if t.Seq == 0 {
		return "nothing"
	}
	return blanked(t.Site, t.Seq, t.Stamp.Wall, t.Stamp.Count) + ": " + blanked(t.Deps[:]...)
}

func (c *clerk) many(rest []string) string {
	none(rest)
	return blanked(c.world.Many(), c.world.Lost())
}

func (c *clerk) site(rest []string) string {
	applied, waits, texts, versions, err := c.world.Site(one(rest))
	must(err)
	return blanked(applied[:]...) + ", " + blanked(waits, versions) + ", " + strings.Join(texts, " ")
}

func (c *clerk) client(rest []string) string {
	at, past, snap, open, err := c.world.Client(one(rest))
	must(err)
	told := blanked(at) + ", " + blanked(past[:]...)
	if open {
		told += ", " + blanked(snap[:]...)
	}
	return told
}

// help sorts: a map has no order of its own.
func (c *clerk) help(rest []string) string {
	none(rest)
	return strings.Join(slices.Sorted(maps.Keys(c.does)), " ")
}
