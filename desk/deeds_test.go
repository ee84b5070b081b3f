package desk_test

import (
	"fmt"
	"slices"
	"strings"
	"testing"

	"waybill/api"
)

// linked lets each of two houses have the queue in, and a name for the other one's: two writes each.
func linked() []string {
	return []string{"name 0 in - -1", "name 0 far in 1", "name 1 in - -1", "name 1 far in 0"}
}

// Promise 7.1: world.
func TestWorld(t *testing.T) {
	checkSession(t, linked(),
		told{"put 0 0 in 1 a", "0"}, told{"commit 0 0", "commit"},
		told{"world 0", "error 2"}, told{"world -1", "error 2"}, told{"world 5", "error 2"}, told{"world", "error 3"},
		told{"ledger", "ledger 0 1 a in 0"}, told{"names 1", "names far=in@0 in"}, told{"names 2", "error 2"},
		told{"world 1", "world"}, told{"ledger", "ledger "}, told{"names 0", "names "}, told{"names 1", "error 2"},
		told{"world 4", "world"}, told{"names 3", "names "}, told{"names 4", "error 2"},
		told{"name 3 far in 2", "name"}, told{"put 3 0 far 1 b", "3"}, told{"commit 3 0", "commit"}, told{"send 3 2", "send"}, told{"many", "1 0"},
		told{"world 4", "world"}, told{"many", "0 0"}, told{"ledger", "ledger "}, told{"names 3", "names "})
}

// Promise 7.1: name, unname, names; an empty To, and HOUSE -1.
func TestNames(t *testing.T) {
	checkSession(t, nil,
		told{"names 0", "names "},
		told{"name 0 in - -1", "name"}, told{"names 0", "names in"},
		told{"name 0 far in 1", "name"}, told{"name 0 a b -1", "name"}, told{"name 0 own in 0", "name"}, told{"name 0 z in 3", "name"},
		told{"names 0", "names a=b far=in@1 in own=in@0 z=in@3"}, told{"names 1", "names "},
		told{"name 0 x - 0", "error 1"}, told{"name 0 x - 1", "error 1"}, told{"name 0 x in -2", "error 1"}, told{"name 0 x in 4", "error 1"}, told{"name 0 X in 1", "error 1"}, told{"name 0 x IN 1", "error 1"}, told{"name 0 abcdefghi - -1", "error 1"},
		told{"name 0 dead - -1", "error 5"}, told{"name 0 dead - 0", "error 1"}, told{"name 0 x dead -1", "name"},
		told{"name 0 a - -1", "name"}, told{"unname 0 z", "unname"}, told{"unname 0 z", "error 7"}, told{"unname 1 a", "error 7"},
		told{"names 0", "names a far=in@1 in own=in@0 x=dead"})
}

// Promise 7.1: one name more than MaxNames.
func TestFullNames(t *testing.T) {
	var l []string
	var all []string
	for i := range api.MaxNames {
		all = append(all, fmt.Sprintf("n%02d", i))
		l = append(l, fmt.Sprintf("name 1 n%02d - -1", i))
	}
	want := "names " + strings.Join(all, " ")
	checkSession(t, l,
		told{"name 1 more - -1", "error 12"}, told{"name 1 dead - -1", "error 12"}, told{"names 1", want},
		told{"name 1 n00 - -1", "name"}, told{"name 0 more - -1", "name"}, told{"unname 1 n19", "unname"}, told{"name 1 dead - -1", "error 5"}, told{"name 1 more - -1", "name"})
}

// Promise 7.1: put, get, commit, back, there, kept.
func TestUnits(t *testing.T) {
	checkSession(t, linked(),
		told{"put 1 0 in 3 hello", "1"}, told{"put 1 4 in 9 b", "5"}, told{"put 0 0 in 0 c", "0"},
		told{"put 1 5 in 1 x", "error 2"}, told{"put 1 -1 in 1 x", "error 2"}, told{"put 1 5 no 10 X", "error 2"},
		told{"put 1 0 in 10 x", "error 1"}, told{"put 1 0 in -1 x", "error 1"}, told{"put 1 0 no 1 X", "error 1"}, told{"put 1 0 in 1 abcdefghijklm", "error 1"}, told{"put 1 0 no 1 x", "error 7"},
		told{"there 1 in", "there "}, told{"kept 1", "kept "}, told{"get 1 0 in", "error 8"}, told{"ledger", "ledger "},
		told{"commit 1 0", "commit"}, told{"commit 1 0", "error 8"}, told{"commit 1 5", "error 2"}, told{"commit 1 -1", "error 2"},
		told{"there 1 in", "there 1 3 hello in 1"}, told{"kept 1", "kept 1 3 hello in 1"},
		told{"commit 1 4", "commit"}, told{"there 1 in", "there 5 9 b in 1+1 3 hello in 1"},
		told{"get 1 2 in", "got 5 9 b in 1"}, told{"there 1 in", "there 1 3 hello in 1"}, told{"kept 1", "kept 5 9 b in 1+1 3 hello in 1"},
		told{"back 1 3", "error 8"}, told{"back 1 5", "error 2"}, told{"back 1 -1", "error 2"}, told{"back 1 2", "back"}, told{"there 1 in", "there 5 9 b in 1+1 3 hello in 1"},
		told{"get 1 2 in", "got 5 9 b in 1"}, told{"get 1 3 in", "got 1 3 hello in 1"}, told{"get 1 3 in", "error 8"}, told{"commit 1 2", "commit"}, told{"kept 1", "kept 1 3 hello in 1"}, told{"there 1 in", "there "},
		told{"get 1 5 in", "error 2"}, told{"get 1 -1 no", "error 2"}, told{"get 1 0 far", "error 7"}, told{"get 1 0 no", "error 7"}, told{"get 1 0 dead", "error 8"},
		told{"there 1 far", "error 7"}, told{"there 1 no", "error 7"}, told{"there 1 dead", "there "},
		told{"back 0 0", "back"}, told{"commit 0 0", "error 8"}, told{"kept 0", "kept "})
}

// Promise 7.1: put to names that stand for others, for none, round, and for a full queue.
func TestPutByName(t *testing.T) {
	checkSession(t, linked(),
		told{"name 0 a b -1", "name"}, told{"put 0 0 a 1 x", "error 7"}, told{"name 0 b a -1", "name"}, told{"put 0 0 a 1 x", "error 11"},
		told{"name 0 b in -1", "name"}, told{"put 0 0 a 1 x", "0"}, told{"name 0 own no 0", "name"}, told{"put 0 0 own 1 x", "error 7"}, told{"name 0 own in 0", "name"}, told{"put 0 0 own 1 y", "4"},
		told{"commit 0 0", "commit"}, told{"there 0 in", "there 0 1 x in 0+4 1 y in 0"}, told{"kept 0", "kept 0 1 x in 0+4 1 y in 0"})
	for _, name := range []string{"in", "far"} {
		l := append(linked(), times(api.MaxDepth, "put 0 0 "+name+" 1 x")...)
		checkSession(t, l, told{"put 0 0 " + name + " 1 x", "error 12"}, told{"put 0 1 " + name + " 1 x", "error 12"}, told{"back 0 0", "back"}, told{"put 0 1 " + name + " 1 x", "80"})
	}
}

// Promise 7.1: kept by the queues' names, also such as are none any more.
func TestKept(t *testing.T) {
	checkSession(t, []string{"name 0 b - -1", "name 0 a - -1", "put 0 0 b 9 x", "put 0 0 a 1 y", "commit 0 0"},
		told{"kept 0", "kept 4 1 y a 0+0 9 x b 0"}, told{"unname 0 a", "unname"}, told{"there 0 a", "error 7"}, told{"kept 0", "kept 4 1 y a 0+0 9 x b 0"}, told{"ledger", "ledger 0 9 x b 0+4 1 y a 0"})
}

// Promise 7.1: send, deliver, lose, twice, many, waits, ledger.
func TestUnderWay(t *testing.T) {
	checkSession(t, linked(),
		told{"send 0 1", "error 8"}, told{"put 0 0 far 1 a", "0"}, told{"waits 0 1", "waits "}, told{"send 0 1", "error 8"}, told{"commit 0 0", "commit"}, told{"waits 0 1", "waits 0 1 a in 1"}, told{"ledger", "ledger 0 1 a in 1"},
		told{"send 0 0", "error 2"}, told{"send 0 2", "error 2"}, told{"send 0 -1", "error 2"}, told{"send 1 0", "error 8"}, told{"many", "0 0"},
		told{"send 0 1", "send"}, told{"many", "1 0"}, told{"send 0 1", "send"}, told{"many", "2 0"}, told{"lose 1", "lose"}, told{"lose 1", "error 2"}, told{"many", "1 0"}, told{"twice 1", "error 2"}, told{"twice 0", "twice"}, told{"twice 1", "twice"}, told{"many", "3 0"},
		told{"deliver 3", "error 2"}, told{"deliver -1", "error 2"}, told{"lose -1", "error 2"}, told{"twice -1", "error 2"}, told{"there 1 in", "there "},
		told{"deliver 1", "deliver"}, told{"many", "3 0"}, told{"there 1 in", "there 0 1 a in 1"}, told{"waits 0 1", "waits 0 1 a in 1"}, told{"ledger", "ledger 0 1 a in 1"},
		told{"deliver 2", "deliver"}, told{"many", "2 0"}, told{"waits 0 1", "waits "}, told{"deliver 0", "deliver"}, told{"deliver 0", "deliver"}, told{"there 1 in", "there 0 1 a in 1"}, told{"many", "2 0"}, told{"deliver 0", "deliver"}, told{"lose 0", "lose"}, told{"many", "0 0"},
		told{"waits 0 0", "error 2"}, told{"waits 1 1", "error 2"}, told{"waits 0 -1", "error 2"}, told{"waits 0 4", "error 2"}, told{"waits 0 3", "waits "}, told{"ledger", "ledger 0 1 a in 1"})
	checkSession(t, []string{"name 0 out x 3", "put 0 0 out 1 a", "put 0 0 out 2 b", "commit 0 0"},
		told{"waits 0 3", "waits 4 2 b x 3+0 1 a x 3"}, told{"send 0 3", "error 2"}, told{"ledger", "ledger 0 1 a x 3+4 2 b x 3"})
}

// Promise 7.1: what is lost is told by many.
func TestLost(t *testing.T) {
	l := append(linked(), "put 0 0 far 1 a", "commit 0 0", "send 0 1")
	l = append(l, times(api.MaxNet-1, "twice 0")...)
	checkSession(t, l, told{"many", "100 0"}, told{"twice 5", "twice"}, told{"many", "100 1"}, told{"send 0 1", "send"}, told{"many", "100 2"}, told{"lose 99", "lose"}, told{"many", "99 2"}, told{"calm 1", "calm"}, told{"many", "0 2"}, told{"world 2", "world"}, told{"many", "0 0"})
}

// Promise 7.1: ROUNDS at their bounds, and that so many go by.
func TestCalm(t *testing.T) {
	checkSession(t, nil, told{"calm 0", "calm"}, told{"calm 100", "calm"}, told{"calm 101", "error 2"}, told{"calm -1", "error 2"}, told{"calm", "error 3"})
	l := append(linked(), times(10, "put 0 0 far 1 a")...)
	l = append(l, "commit 0 0", "send 0 1")
	left := func(from int) string {
		var all []string
		for i := from; i < 10; i++ {
			all = append(all, fmt.Sprint(4*i, " 1 a in 1"))
		}
		return "waits " + strings.Join(all, "+")
	}
	checkSession(t, l,
		told{"calm 101", "error 2"}, told{"calm -1", "error 2"}, told{"many", "1 0"}, told{"calm 0", "calm"}, told{"many", "1 0"}, told{"waits 0 1", left(0)},
		told{"lose 0", "lose"}, told{"calm 1", "calm"}, told{"many", "0 0"}, told{"waits 0 1", left(3)}, told{"calm 2", "calm"}, told{"waits 0 1", left(9)}, told{"calm 1", "calm"}, told{"waits 0 1", "waits "})
	checkSession(t, l, told{"calm 100", "calm"}, told{"waits 0 1", "waits "}, told{"many", "0 0"})
}

// Promise 7.1: cut, restart, and what a house tells whose power is off.
func TestPower(t *testing.T) {
	l := append(linked(), "put 0 0 far 1 a", "put 0 0 in 1 b", "commit 0 0", "put 0 1 in 1 c")
	checkSession(t, l,
		told{"cut 2 0 0", "error 2"}, told{"cut -1 0 0", "error 2"}, told{"restart 2", "error 2"}, told{"restart -1", "error 2"},
		told{"cut 0 1 -1", "cut"}, told{"name 0 x - -1", "name"}, told{"name 0 y - -1", "error 14"}, told{"names 0", "names far=in@1 in x"},
		told{"name 0 y - -1", "error 6"}, told{"name 0 Y - -1", "error 1"}, told{"unname 0 x", "error 6"}, told{"unname 0 y", "error 7"}, told{"put 0 0 in 1 x", "error 6"}, told{"get 0 0 in", "error 6"}, told{"commit 0 1", "error 6"}, told{"back 0 1", "error 6"}, told{"commit 0 0", "error 8"}, told{"back 0 0", "error 8"}, told{"send 0 1", "error 6"},
		told{"there 0 in", "there 4 1 b in 0"}, told{"kept 0", "kept 4 1 b in 0"}, told{"waits 0 1", "waits 0 1 a in 1"}, told{"ledger", "ledger 0 1 a in 1+4 1 b in 0"}, told{"put 1 0 in 1 z", "1"},
		told{"restart 0", "restart"}, told{"names 0", "names far=in@1 in x"}, told{"commit 0 1", "error 8"}, told{"put 0 0 in 1 x", "8"},
		told{"cut 0 0 5", "cut"}, told{"commit 0 0", "error 14"}, told{"restart 0", "restart"}, told{"there 0 in", "there 4 1 b in 0"}, told{"commit 0 0", "error 8"},
		told{"cut 0 0 0", "cut"}, told{"cut 0 -1 0", "cut"}, told{"send 0 1", "send"}, told{"cut 0 0 7", "cut"}, told{"deliver 0", "deliver"}, told{"deliver 0", "deliver"}, told{"send 0 1", "error 6"}, told{"calm 1", "calm"}, told{"waits 0 1", "waits "}, told{"ledger", "ledger 0 1 a in 1+4 1 b in 0"})
	checkSession(t, l, told{"cut 0 0 3", "cut"}, told{"send 0 1", "error 14"}, told{"restart 0", "restart"}, told{"cut 0 0 3", "cut"}, told{"unname 0 in", "error 14"}, told{"names 0", "names far=in@1 in"})
	// Its units are not over when a house is opened anew; those of another one go on.
	checkSession(t, l, told{"put 1 0 in 1 z", "1"}, told{"restart 0", "restart"}, told{"commit 0 1", "error 8"}, told{"commit 1 0", "commit"}, told{"ledger", "ledger 0 1 a in 1+1 1 z in 1+4 1 b in 0"})
}

// Promise 7.1: a disk that is full.
func TestFullDisk(t *testing.T) {
	l := append(linked(), "put 0 0 far 1 a", "commit 0 0", "put 0 0 in 1 b")
	l = append(l, times(api.MaxLog-3, "name 0 x - -1")...)
	checkSession(t, l,
		told{"name 0 x - -1", "error 4"}, told{"unname 0 x", "error 4"}, told{"commit 0 0", "error 4"}, told{"send 0 1", "error 4"}, told{"back 0 0", "back"},
		told{"calm 100", "calm"}, told{"ledger", "ledger 0 1 a in 1"}, told{"waits 0 1", "waits 0 1 a in 1"}, told{"name 1 x - -1", "name"})
}

// Promise 7.1: what can't be brought lies in dead.
func TestDead(t *testing.T) {
	l := append(linked(), "put 0 0 far 1 a", "commit 0 0", "unname 1 in")
	checkSession(t, l, told{"calm 1", "calm"}, told{"there 1 in", "error 7"}, told{"there 1 dead", "there 0 1 a in 1"}, told{"kept 1", "kept 0 1 a in 1"}, told{"get 1 0 dead", "got 0 1 a in 1"}, told{"commit 1 0", "commit"}, told{"ledger", "ledger "})
}

// Promise 7.1: lines that tell errors leave all as it was, wherever they stand.
func TestWrongLinesBetween(t *testing.T) {
	l := append(linked(), "put 0 0 far 1 a", "put 0 1 in 2 b", "commit 0 0", "send 0 1", "twice 0", "deliver 0", "get 1 2 in", "commit 0 1", "deliver 1", "back 1 2", "calm 2", "ledger", "there 1 in", "many")
	wrong := []string{"x", "world 9", "name 0 in IN 1", "name 0 dead - -1", "unname 0 no", "put 0 0 in 10 a", "put 7 0 in 1 a", "get 0 0 no", "commit 0 4", "back 1 4", "cut 2 0 0", "restart 9", "send 1 1", "deliver 99", "lose 99", "twice -1", "calm 101", "there 0 no", "waits 0 0", "help help", ""}
	var mixed []string
	for _, line := range l {
		mixed = append(mixed, line)
		mixed = append(mixed, wrong...)
	}
	want := answers(t, strings.Join(l, "\n"))
	got := answers(t, strings.Join(mixed, "\n"))
	var right []string
	for i := 0; i < len(got); i += 1 + len(wrong) {
		right = append(right, got[i])
	}
	if !slices.Equal(right, want) {
		t.Errorf("%q, want %q", right, want)
	}
}
