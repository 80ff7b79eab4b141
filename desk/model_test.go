package desk_test

import (
	"errors"
	"fmt"
	"slices"
	"strings"
	"testing"

	"copse/api"
	"copse/desk"
	"copse/world"
)

// die: numbers that look drawn, the same each time.
type die uint64

func (d *die) n(most int) int {
	*d = *d*6364136223846793005 + 1442695040888963407
	return int(uint64(*d>>33) % uint64(most))
}

// teller asks a world by its calls, and tells the answers in its own way.
type teller struct{ w *world.World }

func newTeller(t *testing.T) *teller {
	t.Helper()
	w, err := world.New(2, 2)
	if err != nil {
		t.Fatal(err)
	}
	return &teller{w}
}

// told is an answer, or an error in its place.
func told(answer string, err error) string {
	var e api.Errno
	if errors.As(err, &e) {
		return fmt.Sprint("error ", int(e))
	}
	return answer
}

func vec(v api.Vec) string {
	return fmt.Sprintf("%d %d %d %d", v[0], v[1], v[2], v[3])
}

// does lets the world do what a word says with two numbers (of which it may take one, or none), and a text.
func (m *teller) does(word string, a, b int, data string) string {
	switch word {
	case "world":
		w, err := world.New(a, b)
		if err == nil {
			m.w = w
		}
		return told(word, err)
	case "begin":
		return told(word, m.w.Begin(a))
	case "write":
		return told(word, m.w.Write(a, api.Write{Key: b, Data: data}))
	case "drop":
		return told(word, m.w.Write(a, api.Write{Key: b, Gone: true}))
	case "abort":
		return told(word, m.w.Abort(a))
	case "move":
		return told(word, m.w.Move(a, b))
	case "goes":
		return told(word, m.w.Goes(a, b))
	case "ask":
		return told(word, m.w.Ask(a, b))
	case "deliver":
		return told(word, m.w.Deliver(a))
	case "lose":
		return told(word, m.w.Lose(a))
	case "twice":
		return told(word, m.w.Twice(a))
	case "sweep":
		return told(word, m.w.Sweep(a))
	case "calm":
		m.w.Calm()
		return word
	}
	return m.tells(word, a, b)
}

func (m *teller) tells(word string, a, b int) string {
	switch word {
	case "read":
		data, err := m.w.Read(a, b)
		return told(fmt.Sprint("is ", data), err)
	case "commit":
		x, err := m.w.Commit(a)
		if err == nil && x.Seq == 0 {
			return "nothing"
		}
		return told(fmt.Sprintf("%d %d %d %d: %s", x.Site, x.Seq, x.Stamp.Wall, x.Stamp.Count, vec(x.Deps)), err)
	case "many":
		return fmt.Sprintf("%d %d", m.w.Many(), m.w.Lost())
	case "site":
		applied, waits, all, many, err := m.w.Site(a)
		return told(fmt.Sprintf("%s, %d %d, %s", vec(applied), waits, many, strings.Join(all, " ")), err)
	case "client":
		at, past, snap, open, err := m.w.Client(a)
		if open {
			return fmt.Sprintf("%d, %s, %s", at, vec(past), vec(snap))
		}
		return told(fmt.Sprintf("%d, %s", at, vec(past)), err)
	}
	return "abort ask begin calm client commit deliver drop goes help lose many move read site sweep twice world write"
}

// takes is how many words stand behind a word.
func takes(word string) int {
	switch word {
	case "calm", "many", "help":
		return 0
	case "write":
		return 3
	case "world", "drop", "move", "goes", "ask", "read":
		return 2
	}
	return 1
}

// drawn is a line's word, its two numbers, and its text, as they were drawn; some words stand there more often than others, so that something happens.
func drawn(d *die) (word string, a, b int, data string) {
	words := strings.Fields("begin begin begin begin write write write write drop read read read commit commit commit abort move move goes goes ask ask deliver deliver deliver deliver lose twice sweep calm site site client client many help")
	word = words[d.n(len(words))]
	a, b = d.n(4)-d.n(40)/39, d.n(9)-d.n(40)/39
	switch word {
	case "move", "ask":
		b = d.n(4)
	case "goes":
		b = d.n(20)
		if d.n(8) == 0 {
			b = d.n(3)*api.MaxTime - d.n(2)
		}
	case "deliver":
		a = d.n(8)
	}
	data = strings.Repeat("xy=,"[d.n(4):][:1], 1+d.n(3)*d.n(3)*d.n(5))
	if d.n(120) == 0 {
		word, a, b = "world", d.n(6), d.n(8)
	}
	return word, a, b, data
}

// written is a line with blanks as they were drawn, and what it has too much or too little: then it is of another form.
func written(d *die, word string, a, b int, data string) (line string, right bool) {
	l := []string{word, fmt.Sprint(a), fmt.Sprint(b), data}[:1+takes(word)]
	right = true
	if d.n(25) == 0 {
		right = false
		switch k := d.n(4); {
		case k == 0:
			l = append(l, "1")
		case k == 1:
			l[0] += "s"
		case k == 2 && len(l) > 1:
			l = l[:len(l)-1]
		case len(l) > 1:
			l[1] = []string{"0", "+", "x"}[d.n(3)] + l[1]
		default:
			l[0] = "," + l[0]
		}
	}
	line = strings.Repeat(" ", d.n(5)/4)
	for i, w := range l {
		if i > 0 {
			line += strings.Repeat(" ", 1+d.n(6)/5)
		}
		line += w
	}
	return line + strings.Repeat(" ", d.n(5)/4), right
}

// talk is a long session, and what a world that is asked by its calls tells of it.
func talk(t *testing.T, d *die, most int, hook func(word, told string)) (lines, want []string) {
	t.Helper()
	m := newTeller(t)
	for size := 0; ; {
		word, a, b, data := drawn(d)
		line, right := written(d, word, a, b, data)
		if d.n(30) == 0 {
			line, word, right = strings.Repeat(" ", d.n(3)), "", true
		}
		size += len(line) + 1
		if size > most {
			return lines, want
		}
		told := "ok"
		if !right {
			told = "error 3"
		} else if word != "" {
			told = m.does(word, a, b, data)
		}
		hook(word, told)
		lines, want = append(lines, line), append(want, told)
	}
}

// 8.1: long sessions tell what a world tells that is asked by its calls; they come upon each line of the table, and upon each error that it can have.
func TestLongSessions(t *testing.T) {
	came := map[string]int{}
	d := die(1)
	for range 60 {
		lines, want := talk(t, &d, api.MaxText, func(word, told string) {
			if !strings.HasPrefix(told, "error ") {
				told = "right"
			}
			came[word+": "+told]++
		})
		got := answers(t, textOf(lines...))
		if len(got) != len(want) {
			t.Fatalf("%d lines are answered by %d", len(want), len(got))
		}
		for i := range want {
			if got[i] != want[i] {
				t.Fatalf("line %d, %q: %q, want %q", i, lines[i], got[i], want[i])
			}
		}
	}
	for word, errs := range map[string]string{
		"": "", "world": "2 3", "begin": "2 3 6 10", "write": "2 3 4 6 12", "drop": "2 3 6 12", "abort": "2 3 6", "move": "2 3 6", "goes": "2 3", "ask": "2 3", "deliver": "2 3", "lose": "2 3", "twice": "2 3", "sweep": "2 3",
		"calm": "3", "read": "2 3 6 8", "commit": "2 3 6", "many": "3", "site": "2 3", "client": "2 3", "help": "3",
	} {
		for _, e := range append(strings.Fields(errs), "") {
			what := word + ": right"
			if e != "" {
				what = word + ": error " + e
			}
			if came[what] == 0 {
				t.Errorf("never came: %s", what)
			}
		}
	}
}

// 8.1: what is told of lines hangs on those ahead of them alone: a text's beginning is answered by its answer's beginning.
func TestBeginnings(t *testing.T) {
	d := die(5)
	for range 20 {
		lines, _ := talk(t, &d, 2000, func(string, string) {})
		whole := answers(t, textOf(lines...))
		for n := 1; n <= len(lines); n += 7 {
			if got := answers(t, textOf(lines[:n]...)); !slices.Equal(got, whole[:n]) {
				t.Fatalf("%q: %q, want %q", lines[:n], got, whole[:n])
			}
		}
	}
}

// P4: a session hangs on its text alone, and not on those ahead of it.
func TestNothingIsKept(t *testing.T) {
	d := die(7)
	var texts, first []string
	for range 20 {
		lines, _ := talk(t, &d, 3000, func(string, string) {})
		texts = append(texts, textOf(lines...))
		first = append(first, desk.Session(texts[len(texts)-1]))
	}
	for i := len(texts) - 1; i >= 0; i-- {
		if got := desk.Session(texts[i]); got != first[i] {
			t.Errorf("text %d is answered otherwise when it is asked once more", i)
		}
	}
}

// P1, 8.1: whatever the bytes are, each line is answered by a line.
func TestAnyBytes(t *testing.T) {
	d := die(9)
	parts := []string{"\n", "\n", "\n", " ", " ", " ", "0", "1", "-", "9", "calm", "begin", "write", "world", "read", "commit", "\t", "\r", "\x00", "\xff", "ä", ",", ":"}
	for range 3000 {
		text := ""
		for range d.n(60) {
			text += parts[d.n(len(parts))]
		}
		want := strings.Count(text, "\n")
		if !strings.HasSuffix(text, "\n") {
			want++
		}
		if got := answers(t, text); len(got) != want {
			t.Fatalf("%q: %d lines, want %d", text, len(got), want)
		}
	}
}
