package many_test

import (
	"fmt"
	"math"
	"slices"
	"strings"
	"sync"
	"testing"

	"copse/api"
	"copse/desk"
	"copse/many"
	"copse/plain"
)

// The bounds that 9.1 names.
const (
	mostTexts   = 50
	mostWorkers = 16
)

// talks are so many texts, no two of which are answered the same; some are long, and some short.
func talks(n int) []string {
	var l []string
	for i := range n {
		text := fmt.Sprintf("goes 0 %d\nmove 1 1\n", i)
		for k := range i % 7 * 20 {
			text += fmt.Sprintf("begin %d\nwrite %d %d t%d\ncommit %d\ncalm\nsite %d\n", k%2, k%2, i%8, k, k%2, k%2)
		}
		l = append(l, text+"begin 0\nwrite 0 1 x\ncommit 0\nmany\nx\nsite 0\n")
	}
	return l
}

// each is the session of each text, one behind the other.
func each(texts []string) []string {
	var l []string
	for _, text := range texts {
		l = append(l, desk.Session(text))
	}
	return l
}

func checkAll(t *testing.T, texts []string, workers int, want []string) {
	t.Helper()
	got, err := many.All(texts, workers)
	if err != nil {
		t.Fatalf("All of %d texts by %d: %v", len(texts), workers, err)
	}
	if !slices.Equal(got, want) {
		t.Errorf("All of %d texts by %d: %.300q, want %.300q", len(texts), workers, got, want)
	}
}

func checkErr(t *testing.T, texts []string, workers int) {
	t.Helper()
	got, err := many.All(texts, workers)
	if e, bare := plain.Bare(err); e != api.ErrLimit || !bare || len(got) != 0 {
		t.Errorf("All of %d texts by %d: %d texts, error %d (bare: %v), want none, and ErrLimit", len(texts), workers, len(got), e, bare)
	}
}

// 9.1: the answers are those of desk, in the order of the texts.
func TestOrdinary(t *testing.T) {
	texts := []string{"begin 0\nwrite 0 2 a\ncommit 0\n", "", "help x\nmany", "world 1 1\nclient 0\nclient 1", strings.Repeat("x", api.MaxText+1), "calm"}
	want := []string{"begin\nwrite\n0 1 0 1: 0 0 0 0\n", "ok\n", "error 3\n0 0\n", "world\n0, 0 0 0 0\nerror 2\n", "error 4\n", "calm\n"}
	for workers := 1; workers <= mostWorkers; workers++ {
		checkAll(t, texts, workers, want)
	}
}

// 9.1: the same texts are answered the same by however many workers; also with more workers than texts.
func TestWorkers(t *testing.T) {
	for _, n := range []int{1, 2, 3, 15, 16, 17, 49, mostTexts} {
		texts := talks(n)
		want := each(texts)
		for workers := 1; workers <= mostWorkers; workers++ {
			checkAll(t, texts, workers, want)
		}
	}
}

// 9.1: the same text at several places is answered at each.
func TestSameTexts(t *testing.T) {
	texts := slices.Repeat([]string{talks(7)[6], "many", "\n\n"}, 16)
	checkAll(t, texts, 5, each(texts))
}

// 9.1: no text has no answer.
func TestNoText(t *testing.T) {
	for _, workers := range []int{1, 2, mostWorkers} {
		checkAll(t, nil, workers, nil)
		checkAll(t, []string{}, workers, nil)
	}
}

// 9.1: there are 50 texts at most, and 1 to 16 workers.
func TestLimits(t *testing.T) {
	most := talks(mostTexts + 1)
	want := each(most[:mostTexts])
	for _, workers := range []int{1, mostWorkers} {
		checkAll(t, most[:mostTexts], workers, want)
		checkErr(t, most, workers)
		checkErr(t, make([]string, 1000), workers)
	}
	for _, workers := range []int{0, -1, mostWorkers + 1, 100, math.MaxInt, math.MinInt} {
		for _, n := range []int{0, 1, mostTexts, mostTexts + 1} {
			checkErr(t, most[:n], workers)
		}
	}
}

// P4: the list that is handed in stays as it is, also behind its length; what comes out is the caller's.
func TestLists(t *testing.T) {
	room := talks(10)
	was := slices.Clone(room)
	got, err := many.All(room[:6], 4)
	if err != nil || !slices.Equal(room, was) {
		t.Fatalf("All wrote into its list (error %v)", err)
	}
	want := slices.Clone(got)
	again, err := many.All(room[:6], 4)
	for i := range again {
		again[i] = "mine"
	}
	_ = append(again, "mine")
	if err != nil || !slices.Equal(got, want) || !slices.Equal(room, was) {
		t.Errorf("two answers share memory (error %v)", err)
	}
	for i := range room {
		room[i] = "x"
	}
	if !slices.Equal(got, want) {
		t.Error("an answer hangs on the list that was handed in")
	}
}

// P4: calls at the same time make no difference to each other.
func TestAtTheSameTime(t *testing.T) {
	texts := talks(20)
	want := each(texts)
	got := make([][]string, 8)
	var calls sync.WaitGroup
	for i := range got {
		calls.Add(1)
		go func() {
			defer calls.Done()
			got[i], _ = many.All(texts, i+1)
		}()
	}
	calls.Wait()
	for i, l := range got {
		if !slices.Equal(l, want) {
			t.Errorf("call %d: %.300q, want %.300q", i, l, want)
		}
	}
}
