package many_test

import (
	"errors"
	"fmt"
	"math"
	"slices"
	"strings"
	"testing"

	"waybill/api"
	"waybill/desk"
	"waybill/many"
)

// some are texts that are answered otherwise each; the first ones take the longest.
func some(n int) []string {
	var l []string
	for i := range n {
		text := "name 0 in - -1\nname 1 far in 0\n"
		for j := range n - i {
			text += fmt.Sprintf("put 1 0 far %d b%d\ncommit 1 0\ncalm 1\nledger\n", j%10, i)
		}
		l = append(l, text+fmt.Sprintf("put 0 0 in 1 x%d\ncommit 0 0\nthere 0 in\nx\n", i))
	}
	return l
}

// one by one, as Session answers.
func oneByOne(texts []string) []string {
	var l []string
	for _, s := range texts {
		l = append(l, desk.Session(s))
	}
	return l
}

func checkAll(t *testing.T, texts []string, workers int, want []string) {
	t.Helper()
	got, err := many.All(texts, workers)
	if err != nil || !slices.Equal(got, want) {
		t.Errorf("All of %d texts by %d: %d answers, %v: not what Session answers, one by one", len(texts), workers, len(got), err)
	}
}

// Promise 8.1: each text's session, in order, by however many workers.
func TestAll(t *testing.T) {
	for _, n := range []int{0, 1, 2, 3, 15, 16, 17, 49, 50} {
		texts := some(n)
		want := oneByOne(texts)
		for workers := 1; workers <= 16; workers++ {
			checkAll(t, texts, workers, want)
		}
	}
}

// Promise 8.1: no texts, as a list that is none and as an empty one.
func TestNone(t *testing.T) {
	for workers := 1; workers <= 16; workers++ {
		checkAll(t, nil, workers, nil)
		checkAll(t, []string{}, workers, nil)
	}
}

// Promise 8.1: texts of all sorts: empty, too long, the same several times.
func TestTextsOfAllSorts(t *testing.T) {
	texts := []string{"", "\n", "\n\n", "x", strings.Repeat("x", api.MaxText+1), strings.Repeat(" ", api.MaxText), "many", "many", "world 9", "\xff", "name 0 a - -1\nnames 0", "names 0"}
	want := []string{"ok\n", "ok\n", "ok\nok\n", "error 3\n", "error 4\n", "ok\n", "0 0\n", "0 0\n", "error 2\n", "error 3\n", "name\nnames a\n", "names \n"}
	for workers := 1; workers <= 16; workers++ {
		checkAll(t, texts, workers, want)
	}
}

// Promise 8.1: the same texts by the same workers are answered alike, each time.
func TestAgain(t *testing.T) {
	texts := some(12)
	want := oneByOne(texts)
	for range 30 {
		checkAll(t, texts, 16, want)
		checkAll(t, texts, 5, want)
	}
}

// Promise 8.1: ErrLimit, and nothing beside it (P2).
func TestLimits(t *testing.T) {
	for _, x := range []struct{ texts, workers int }{
		{51, 1}, {51, 16}, {51, 0}, {51, 17}, {100, 4}, {0, 0}, {0, 17}, {0, -1}, {1, 0}, {1, 17}, {50, 0}, {50, 17}, {1, -1}, {1, math.MaxInt}, {1, math.MinInt}, {50, 1 << 32}, {50, 1<<32 + 1},
	} {
		l, err := many.All(make([]string, x.texts), x.workers)
		var at *api.At
		if len(l) != 0 || api.Tell(err) != api.ErrLimit || errors.As(err, &at) {
			t.Errorf("All of %d texts by %d: %q, %v", x.texts, x.workers, l, err)
		}
	}
}

// P4: the list that is handed in stays as it is, and what comes out is the caller's.
func TestListsAreTheCallers(t *testing.T) {
	room := append(some(4), "behind", "behind")
	texts := room[:4]
	before := slices.Clone(room)
	want := oneByOne(texts)
	first, err := many.All(texts, 3)
	if err != nil {
		t.Fatal(err)
	}
	second, err := many.All(texts, 3)
	if err != nil {
		t.Fatal(err)
	}
	for i := range first {
		first[i] = "other"
	}
	if !slices.Equal(room, before) || !slices.Equal(second, want) {
		t.Errorf("a list that is another's was written into")
	}
	for i := range texts {
		texts[i] = "many"
	}
	if !slices.Equal(second, want) {
		t.Errorf("an answer hangs on the list that was handed in")
	}
}

// P1: several calls at the same time do not disturb each other.
func TestAtTheSameTime(t *testing.T) {
	texts := some(10)
	want := oneByOne(texts)
	results := make(chan bool)
	for range 8 {
		go func() {
			got, err := many.All(texts, 4)
			results <- err == nil && slices.Equal(got, want)
		}()
	}
	for range 8 {
		if !<-results {
			t.Errorf("All at the same time is not what Session answers")
		}
	}
}
