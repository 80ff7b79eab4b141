package wire

import (
	"copse/api"
)

// mostBytes is how many bytes MaxTime needs, the greatest number that is written: a number in more of them would run out of an int.
const mostBytes = 6

// reader takes bytes apart. What was wrong once stays wrong, so that it is enough to ask at the end.
type reader struct {
	rest  []byte
	wrong bool
}

// isDone says whether all was right, and nothing is left.
func (r *reader) isDone() bool {
	return !r.wrong && len(r.rest) == 0
}

// take is the next n bytes; where there are fewer, there are none, and it is wrong.
func (r *reader) take(n int) string {
	if n > len(r.rest) {
		r.wrong = true
		return ""
	}
	s := string(r.rest[:n])
	r.rest = r.rest[n:]
	return s
}

func (r *reader) kind(want string) {
	if r.take(1) != want {
		r.wrong = true
	}
}

// number is the next one, from 0 to most, in no more bytes than it needs; else it is 0, and wrong.
func (r *reader) number(most int) int {
	n := 0
	for i := range mostBytes {
		if len(r.rest) == 0 {
			break
		}
		c := int(r.rest[0])
		r.rest = r.rest[1:]
		n += (c % 128) << (7 * i)
		if c >= 128 {
			continue
		}
		// A last byte of 0 behind others adds nothing: the number needs fewer.
		if n > most || c == 0 && i > 0 {
			break
		}
		return n
	}
	r.wrong = true
	return 0
}

func (r *reader) vec() api.Vec {
	var v api.Vec
	for i := range v {
		v[i] = r.number(api.MaxTime)
	}
	return v
}

func (r *reader) write() api.Write {
	var w api.Write
	w.Key = r.number(api.MaxKeys - 1)
	w.Gone = r.number(1) == 1
	w.Data = r.take(r.number(api.MaxData))
	return w
}
