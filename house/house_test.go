package house_test

import (
	"errors"
	"fmt"
	"math"
	"slices"
	"strings"
	"testing"

	"waybill/api"
	"waybill/house"
	"waybill/plain"
)

// open is house 1 over a disk.
func open(t *testing.T, d *house.Disk) *house.House {
	t.Helper()
	h, err := house.Open(1, d)
	if err != nil || h == nil {
		t.Fatalf("Open = %v, %v", h, err)
	}
	return h
}

// local is a queue of the house itself.
func local(s string) api.Name { return api.Name{Name: s, House: -1} }

// named is house 1 over an empty disk, with the queues in and out, and far for queue in of house 2: three places are written.
func named(t *testing.T) (*house.House, *house.Disk) {
	t.Helper()
	d := new(house.Disk)
	h := open(t, d)
	for _, x := range []api.Name{local("in"), local("out"), {Name: "far", To: "in", House: 2}} {
		ok(t, "Name", h.Name(x))
	}
	return h, d
}

// checkErr holds an error against the one that is asked for: an Errno without a place (P3).
func checkErr(t *testing.T, what string, err error, want api.Errno) {
	t.Helper()
	var at *api.At
	if api.Tell(err) != want || errors.As(err, &at) {
		t.Errorf("%s: %v, want %v", what, err, want)
	}
}

func ok(t *testing.T, what string, err error) {
	t.Helper()
	checkErr(t, what, err, api.OK)
}

func put(t *testing.T, h *house.House, u int, name string, priority, id int) {
	t.Helper()
	got, err := h.Put(u, name, priority, "x")
	if got != id || err != nil {
		t.Errorf("Put by unit %d for %s = %d, %v, want %d", u, name, got, err, id)
	}
}

func get(t *testing.T, h *house.House, u int, name string, id int) {
	t.Helper()
	m, err := h.Get(u, name)
	if m.Id != id || err != nil {
		t.Errorf("Get by unit %d from %s = %v, %v, want %d", u, name, m, err, id)
	}
}

func commit(t *testing.T, h *house.House, u int) {
	t.Helper()
	ok(t, fmt.Sprint("Commit of ", u), h.Commit(u))
}

func arrives(t *testing.T, h *house.House, from, number int, l ...api.Message) {
	t.Helper()
	if got, err := h.Arrives(from, number, l); got != number || err != nil {
		t.Errorf("Arrives = %d, %v, want %d", got, err, number)
	}
}

// to1 is a message for a queue of house 1.
func to1(id, priority int, queue string) api.Message {
	return api.Message{Id: id, Priority: priority, Body: "x", Queue: queue, House: 1}
}

func ids(l []api.Message) []int {
	out := []int{}
	for _, m := range l {
		out = append(out, m.Id)
	}
	return out
}

func checkIds(t *testing.T, what string, got []int, want ...int) {
	t.Helper()
	if !slices.Equal(got, want) {
		t.Errorf("%s: %v, want %v", what, got, want)
	}
}

func checkThere(t *testing.T, h *house.House, name string, want ...int) {
	t.Helper()
	l, err := h.There(name)
	ok(t, "There of "+name, err)
	checkIds(t, "There of "+name, ids(l), want...)
}

func checkKept(t *testing.T, h *house.House, want ...int) {
	t.Helper()
	checkIds(t, "Kept", ids(h.Kept()), want...)
}

func checkWaits(t *testing.T, h *house.House, to int, want ...int) {
	t.Helper()
	l, err := h.Waits(to)
	ok(t, "Waits", err)
	checkIds(t, "Waits", ids(l), want...)
}

func checkDoubt(t *testing.T, h *house.House, to, number int, want ...int) {
	t.Helper()
	n, l, err := h.Doubt(to)
	ok(t, "Doubt", err)
	if n != number || !slices.Equal(l, want) {
		t.Errorf("Doubt = %d, %v, want %d, %v", n, l, number, want)
	}
}

func checkBatch(t *testing.T, h *house.House, to, number int, want ...int) {
	t.Helper()
	n, l, err := h.Batch(to)
	if n != number || !slices.Equal(ids(l), want) || err != nil {
		t.Errorf("Batch = %d, %v, %v, want %d, %v", n, l, err, number, want)
	}
}

func checkArrived(t *testing.T, h *house.House, from, want int) {
	t.Helper()
	if n, err := h.Arrived(from); n != want || err != nil {
		t.Errorf("Arrived = %d, %v, want %d", n, err, want)
	}
}

// checkAnew: opened anew the house looks the same; no unit may be under way.
func checkAnew(t *testing.T, h *house.House, d *house.Disk) *house.House {
	t.Helper()
	anew := open(t, d)
	if told(anew) != told(h) {
		t.Errorf("opened anew:\n%s\nit was:\n%s", told(anew), told(h))
	}
	return anew
}

// checkRefused: every call is answered by its error, with zero values (P2), and changes nothing.
func checkRefused(t *testing.T, h *house.House, calls map[string]func() (any, error), want api.Errno) {
	t.Helper()
	was := told(h)
	for what, call := range calls {
		got, err := call()
		checkErr(t, what, err, want)
		if fmt.Sprint(got) != fmt.Sprint(zeroLike(got)) {
			t.Errorf("%s: %v with an error", what, got)
		}
		if now := told(h); now != was {
			t.Errorf("%s changed something:\n%s\nit was:\n%s", what, now, was)
		}
	}
}

func zeroLike(x any) any {
	switch x.(type) {
	case int:
		return 0
	case api.Message:
		return api.Message{}
	case batch:
		return batch{}
	}
	return nil
}

// batch is what Batch tells beside its error.
type batch struct {
	number int
	list   []api.Message
}

func batchOf(h *house.House, to int) (any, error) {
	n, l, err := h.Batch(to)
	return batch{n, l}, err
}

// Promise 4.1: a house's number, and its disk.
func TestOpenWrong(t *testing.T) {
	for _, id := range []int{math.MinInt, -1, api.MaxHouses, math.MaxInt} {
		for _, d := range []*house.Disk{nil, {}} {
			h, err := house.Open(id, d)
			checkErr(t, fmt.Sprint("Open of ", id), err, api.ErrRange)
			if h != nil {
				t.Errorf("Open of %d: a house", id)
			}
		}
	}
	for id := range api.MaxHouses {
		h, err := house.Open(id, nil)
		checkErr(t, "Open without a disk", err, api.ErrMissing)
		if h != nil {
			t.Error("Open without a disk: a house")
		}
	}
}

// Promises 4.1, 4.2, 4.4 to 4.6: at first there is nothing.
func TestNothing(t *testing.T) {
	for id := range api.MaxHouses {
		h, err := house.Open(id, new(house.Disk))
		ok(t, "Open", err)
		if h.Down() || h.Used() != 0 || len(h.Names()) != 0 || len(h.Kept()) != 0 {
			t.Errorf("house %d: %s", id, told(h))
		}
		checkThere(t, h, api.Dead)
		_, err = h.Get(0, api.Dead)
		checkErr(t, "Get from Dead", err, api.ErrNone)
		for k := range api.MaxHouses {
			if k == id {
				continue
			}
			checkWaits(t, h, k)
			checkDoubt(t, h, k, 0)
			checkArrived(t, h, k, 0)
			_, _, err := h.Batch(k)
			checkErr(t, "Batch", err, api.ErrNone)
			checkErr(t, "Came", h.Came(k, 0), api.ErrNone)
		}
		for u := range api.MaxUnits {
			checkErr(t, "Commit", h.Commit(u), api.ErrNone)
			checkErr(t, "Backout", h.Backout(u), api.ErrNone)
		}
		if h.Used() != 0 {
			t.Errorf("Used = %d", h.Used())
		}
	}
}

// Promise 4.2: names are set and dropped, each time with a write; Set's errors, then ErrName.
func TestNames(t *testing.T) {
	h, d := named(t)
	for _, x := range []api.Name{{}, {Name: "A", House: -1}, {Name: "a", House: 0}, {Name: "a", To: "b", House: 4}, {Name: "a", To: "b", House: -2}, {Name: "a:b", House: -1}, {Name: "a\n", House: -1}, {Name: "a", To: "b\n", House: 1}, {Name: "dead", House: 0}} {
		checkErr(t, fmt.Sprint("Name of ", x), h.Name(x), api.ErrArg)
	}
	for _, x := range []api.Name{local(api.Dead), {Name: api.Dead, To: "in", House: -1}, {Name: api.Dead, To: "in", House: 2}} {
		checkErr(t, fmt.Sprint("Name of ", x), h.Name(x), api.ErrName)
	}
	for _, s := range []string{"", "none", "dead", "IN", "in ", strings.Repeat("in", 1000)} {
		checkErr(t, "Unname of "+s, h.Unname(s), api.ErrMissing)
	}
	if h.Used() != 3 {
		t.Errorf("Used = %d behind wrong names", h.Used())
	}
	ok(t, "Name", h.Name(api.Name{Name: "far", To: "dead", House: 3}))
	ok(t, "Unname", h.Unname("out"))
	checkErr(t, "Unname", h.Unname("out"), api.ErrMissing)
	want := []api.Name{{Name: "far", To: "dead", House: 3}, local("in")}
	if !slices.Equal(h.Names(), want) || h.Used() != 5 {
		t.Errorf("Names = %v, Used = %d", h.Names(), h.Used())
	}
	checkAnew(t, h, d)
}

// Promise 4.2: MaxNames, and one more; ErrFull is Set's, and so ahead of ErrName.
func TestNamesFull(t *testing.T) {
	d := new(house.Disk)
	h := open(t, d)
	for i := range api.MaxNames {
		ok(t, "Name", h.Name(local(fmt.Sprint("q", i))))
	}
	checkErr(t, "one more", h.Name(local("more")), api.ErrFull)
	checkErr(t, "dead", h.Name(local(api.Dead)), api.ErrFull)
	checkErr(t, "a wrong one", h.Name(local("")), api.ErrArg)
	ok(t, "one that is there", h.Name(api.Name{Name: "q7", To: "q3", House: -1}))
	checkAnew(t, h, d)
	ok(t, "Unname", h.Unname("q1"))
	checkErr(t, "dead", h.Name(local(api.Dead)), api.ErrName)
	ok(t, "the last one", h.Name(local("more")))
	checkAnew(t, h, d)
}

// Promise 4.2: a name's messages stay when it is none any more, and are its when it is local again.
func TestQueueStays(t *testing.T) {
	h, d := named(t)
	put(t, h, 0, "in", 1, 1)
	put(t, h, 0, "in", 2, 5)
	commit(t, h, 0)
	put(t, h, 1, "in", 9, 9)
	get(t, h, 2, "in", 5)
	for _, away := range []func() error{
		func() error { return h.Unname("in") },
		func() error { return h.Name(api.Name{Name: "in", To: "out", House: -1}) },
		func() error { return h.Name(api.Name{Name: "in", To: "out", House: 3}) },
		func() error { return h.Name(api.Name{Name: "in", To: "in", House: 1}) },
	} {
		ok(t, "away", away())
		checkKept(t, h, 5, 1)
		checkKept(t, open(t, d), 5, 1)
		_, err := h.There("in")
		checkErr(t, "There", err, api.ErrMissing)
		_, err = h.Get(3, "in")
		checkErr(t, "Get", err, api.ErrMissing)
		ok(t, "again", h.Name(local("in")))
		checkThere(t, h, "in", 1)
		checkThere(t, open(t, d), "in", 5, 1)
	}
	commit(t, h, 1)
	ok(t, "Backout", h.Backout(2))
	checkThere(t, h, "in", 9, 5, 1)
	checkAnew(t, h, d)
}

// Promise 4.3: example 4: the first message that house 1 puts is number 1; the second one 5.
func TestIds(t *testing.T) {
	for id := range api.MaxHouses {
		h, err := house.Open(id, new(house.Disk))
		ok(t, "Open", err)
		ok(t, "Name", h.Name(local("in")))
		for i := range 5 {
			put(t, h, i, "in", 0, 4*i+id)
		}
		commit(t, h, 3)
		m, err := h.Get(0, "in")
		if want := (api.Message{Id: 12 + id, Body: "x", Queue: "in", House: id}); m != want || err != nil {
			t.Errorf("Get = %v, %v, want %v", m, err, want)
		}
	}
}

// Promise 4.3: what a message is for, by the name that it was put for.
func TestPutFor(t *testing.T) {
	h, d := named(t)
	for _, x := range []api.Name{
		{Name: "self", To: "out", House: 1},
		{Name: "near", To: "in", House: -1},
		{Name: "long", To: "near", House: -1},
		{Name: "away", To: "far", House: -1},
		{Name: "other", To: "any", House: 0},
		{Name: "grave", To: "dead", House: 3},
	} {
		ok(t, "Name", h.Name(x))
	}
	for i, c := range []struct {
		name, queue string
		house       int
	}{
		{"in", "in", 1}, {"out", "out", 1}, {"self", "out", 1}, {"near", "in", 1}, {"long", "in", 1},
		{"far", "in", 2}, {"away", "in", 2}, {"other", "any", 0}, {"grave", "dead", 3},
	} {
		put(t, h, 0, c.name, 3, 4*i+1)
		commit(t, h, 0)
		want := api.Message{Id: 4*i + 1, Priority: 3, Body: "x", Queue: c.queue, House: c.house}
		var l []api.Message
		if c.house == 1 {
			l, _ = h.There(c.queue)
		} else {
			l, _ = h.Waits(c.house)
		}
		if !slices.Contains(l, want) {
			t.Errorf("put for %s: %v, want %v", c.name, l, want)
		}
	}
	checkKept(t, h, 1, 13, 17, 5, 9)
	checkAnew(t, h, d)
}

// Promise 4.3: wrong inputs of Put, the error told first ahead.
func TestPutWrong(t *testing.T) {
	h, d := named(t)
	for _, x := range []api.Name{
		{Name: "a", To: "b", House: -1}, {Name: "b", To: "a", House: -1}, {Name: "c", To: "none", House: -1},
		{Name: "self", To: "none", House: 1}, {Name: "again", To: "far", House: 1}, {Name: "grave", To: "dead", House: 1}, {Name: "grave2", To: "dead", House: -1},
	} {
		ok(t, "Name", h.Name(x))
	}
	for range api.MaxDepth {
		h.Put(0, "in", 0, "x")
	}
	for _, c := range []struct {
		u        int
		name     string
		priority int
		body     string
		want     api.Errno
	}{
		{-1, "none", -1, "", api.ErrRange},
		{api.MaxUnits, "in", 0, "x", api.ErrRange},
		{math.MinInt, "in", 0, "x", api.ErrRange},
		{math.MaxInt, "in", 0, "x", api.ErrRange},
		{0, "none", -1, "x", api.ErrArg},
		{0, "none", api.MaxPriority + 1, "x", api.ErrArg},
		{0, "out", math.MaxInt, "x", api.ErrArg},
		{0, "out", math.MinInt, "x", api.ErrArg},
		{0, "out", 0, "", api.ErrArg},
		{0, "none", 0, "X", api.ErrArg},
		{0, "out", 0, "0123456789abc", api.ErrArg},
		{0, "out", 0, "a b", api.ErrArg},
		{0, "out", 0, "a:b", api.ErrArg},
		{0, "out", 0, "a\n", api.ErrArg},
		{0, "none", 0, "x", api.ErrMissing},
		{0, "", 0, "x", api.ErrMissing},
		{0, api.Dead, 0, "x", api.ErrMissing},
		{0, "c", 0, "x", api.ErrMissing},
		{0, "a", 0, "x", api.ErrCycle},
		{0, "b", 0, "x", api.ErrCycle},
		{0, "self", 0, "x", api.ErrMissing},
		{0, "again", 0, "x", api.ErrMissing},
		{0, "grave", 0, "x", api.ErrMissing},
		{0, "grave2", 0, "x", api.ErrMissing},
		{0, "in", 0, "x", api.ErrFull},
	} {
		was := told(h)
		id, err := h.Put(c.u, c.name, c.priority, c.body)
		checkErr(t, fmt.Sprint("Put ", c), err, c.want)
		if id != 0 || told(h) != was {
			t.Errorf("Put %v: id %d, or something changed", c, id)
		}
	}
	put(t, h, 1, "out", 0, 4*api.MaxDepth+1) // the count did not go on
	put(t, h, api.MaxUnits-1, "out", api.MaxPriority, 4*api.MaxDepth+5)
	checkErr(t, "of a unit that put nothing", h.Commit(2), api.ErrNone)
	commit(t, h, 0)
	commit(t, h, 1)
	checkErr(t, "once more", h.Commit(1), api.ErrNone)
	commit(t, h, api.MaxUnits-1)
	checkAnew(t, h, d)
}

// Promise 4.3: wrong inputs of Get; a Get that took nothing is nothing that a unit did.
func TestGetWrong(t *testing.T) {
	h, _ := named(t)
	ok(t, "Name", h.Name(api.Name{Name: "near", To: "in", House: -1}))
	ok(t, "Name", h.Name(api.Name{Name: "self", To: "in", House: 1}))
	put(t, h, 0, "in", 0, 1)
	commit(t, h, 0)
	for _, c := range []struct {
		u    int
		name string
		want api.Errno
	}{
		{-1, "none", api.ErrRange}, {api.MaxUnits, "in", api.ErrRange}, {math.MinInt, "in", api.ErrRange}, {math.MaxInt, "in", api.ErrRange},
		{0, "none", api.ErrMissing}, {0, "", api.ErrMissing}, {0, "near", api.ErrMissing}, {0, "self", api.ErrMissing}, {0, "far", api.ErrMissing},
		{0, "out", api.ErrNone}, {0, api.Dead, api.ErrNone},
	} {
		m, err := h.Get(c.u, c.name)
		checkErr(t, fmt.Sprint("Get ", c), err, c.want)
		if m != (api.Message{}) {
			t.Errorf("Get %v = %v", c, m)
		}
	}
	for u := range api.MaxUnits {
		checkErr(t, "Commit", h.Commit(u), api.ErrNone)
		checkErr(t, "Backout", h.Backout(u), api.ErrNone)
	}
	get(t, h, 0, "in", 1)
	_, err := h.Get(1, "in")
	checkErr(t, "what another one took", err, api.ErrNone)
	_, err = h.Get(0, "in")
	checkErr(t, "what it took", err, api.ErrNone)
}

// Promises 4.3, 4.4: numbers that are no unit's, and names that are no queue's.
func TestUnitsWrong(t *testing.T) {
	h, _ := named(t)
	put(t, h, 0, "in", 0, 1)
	for _, u := range []int{math.MinInt, -1, api.MaxUnits, math.MaxInt} {
		checkErr(t, "Commit", h.Commit(u), api.ErrRange)
		checkErr(t, "Backout", h.Backout(u), api.ErrRange)
	}
	for _, name := range []string{"", "none", "far", "IN", "in\n"} {
		l, err := h.There(name)
		checkErr(t, "There of "+name, err, api.ErrMissing)
		if len(l) > 0 {
			t.Errorf("There of %q = %v", name, l)
		}
	}
	if h.Used() != 3 {
		t.Errorf("Used = %d", h.Used())
	}
}

// Promise 4.4: a unit's messages are there when it is over, in the order in which it put them, behind all that came ahead of that.
func TestComesAnew(t *testing.T) {
	h, d := named(t)
	put(t, h, 0, "in", 1, 1)
	put(t, h, 1, "in", 1, 5)
	put(t, h, 0, "far", 1, 9)
	put(t, h, 1, "far", 1, 13)
	put(t, h, 0, "in", 2, 17)
	put(t, h, 0, "in", 1, 21)
	put(t, h, 0, "far", 2, 25)
	checkThere(t, h, "in")
	checkKept(t, h)
	checkWaits(t, h, 2)
	arrives(t, h, 3, 1, to1(3, 1, "in"))
	commit(t, h, 1)
	checkThere(t, h, "in", 3, 5)
	arrives(t, h, 3, 2, to1(7, 1, "in"))
	commit(t, h, 0)
	checkThere(t, h, "in", 17, 3, 5, 7, 1, 21)
	checkWaits(t, h, 2, 25, 13, 9)
	checkAnew(t, h, d)
}

// Promise 4.4: what a unit takes is gone when it is over; taken back it stands where it stood.
func TestTakes(t *testing.T) {
	h, d := named(t)
	for i := range 4 {
		put(t, h, 0, "in", 1, 4*i+1)
	}
	commit(t, h, 0)
	get(t, h, 0, "in", 1)
	get(t, h, 1, "in", 5)
	get(t, h, 0, "in", 9)
	checkThere(t, h, "in", 13)
	checkKept(t, h, 1, 5, 9, 13)
	checkThere(t, open(t, d), "in", 1, 5, 9, 13)
	put(t, h, 1, "in", 1, 17)
	ok(t, "Backout", h.Backout(1))
	checkThere(t, h, "in", 5, 13)
	checkErr(t, "once more", h.Backout(1), api.ErrNone)
	commit(t, h, 0)
	checkThere(t, h, "in", 5, 13)
	checkAnew(t, h, d)
	put(t, h, 2, "in", 1, 21)
	get(t, h, 2, "in", 5)
	commit(t, h, 2) // both, with one write
	checkThere(t, h, "in", 13, 21)
	if checkAnew(t, h, d); h.Used() != 6 {
		t.Errorf("Used = %d", h.Used())
	}
}

// Promise 4.4: a unit that puts for a name that is none any more when it is over.
func TestNameGoneWhenOver(t *testing.T) {
	h, d := named(t)
	put(t, h, 0, "in", 4, 1)
	put(t, h, 0, "far", 4, 5)
	put(t, h, 1, "in", 4, 9)
	ok(t, "Unname", h.Unname("in"))
	ok(t, "Unname", h.Unname("far"))
	_, err := h.Put(0, "in", 4, "x")
	checkErr(t, "Put", err, api.ErrMissing)
	commit(t, h, 0)
	checkKept(t, h, 1)
	checkWaits(t, h, 2, 5)
	ok(t, "Backout", h.Backout(1))
	h = checkAnew(t, h, d)
	ok(t, "Name", h.Name(local("in")))
	checkThere(t, h, "in", 1)
	get(t, h, 0, "in", 1)
	ok(t, "Unname", h.Unname("in"))
	commit(t, h, 0)
	checkKept(t, h)
	checkAnew(t, h, d)
}

// Promise 4.4: Kept is by the queues' names, byte by byte, Dead's among them.
func TestKept(t *testing.T) {
	d := new(house.Disk)
	h := open(t, d)
	words := []string{"z", "a", "aa", "0", "e", "d", "deae", "deac", "9"}
	for _, s := range words {
		ok(t, "Name", h.Name(local(s)))
	}
	var l []api.Message
	for i, s := range append(words, "none", "x") {
		l = append(l, to1(4*i, 1, s), to1(4*i+2, 2, s))
	}
	arrives(t, h, 2, 1, l...)
	ok(t, "Unname", h.Unname("d"))
	ok(t, "Unname", h.Unname("aa"))
	get(t, h, 0, "deac", 30)
	get(t, h, 0, api.Dead, 38)
	put(t, h, 0, "z", 9, 1)
	checkKept(t, h, 14, 12, 34, 32, 6, 4, 10, 8, 22, 20, 30, 28, 38, 42, 36, 40, 26, 24, 18, 16, 2, 0)
	checkKept(t, open(t, d), 14, 12, 34, 32, 6, 4, 10, 8, 22, 20, 30, 28, 38, 42, 36, 40, 26, 24, 18, 16, 2, 0)
}

// Promise 4.3: a queue, and what waits, have MaxDepth, there or not; each by itself.
func TestFull(t *testing.T) {
	h, d := named(t)
	ok(t, "Name", h.Name(api.Name{Name: "third", To: "in", House: 3}))
	for i := range api.MaxDepth {
		for k, name := range []string{"in", "far"} {
			put(t, h, i%3, name, 1, 8*i+4*k+1)
		}
		if i == 9 {
			commit(t, h, 0)
			get(t, h, 3, "in", 1)
		}
	}
	next := 8*api.MaxDepth + 1
	for _, name := range []string{"in", "far"} {
		id, err := h.Put(4, name, 1, "x")
		checkErr(t, "Put for "+name, err, api.ErrFull)
		if id != 0 {
			t.Errorf("Put = %d", id)
		}
	}
	put(t, h, 4, "out", 1, next)
	put(t, h, 4, "third", 1, next+4)
	commit(t, h, 3)
	put(t, h, 4, "in", 1, next+8)
	ok(t, "Backout", h.Backout(1))
	for range 7 {
		_, err := h.Put(4, "far", 1, "x")
		ok(t, "Put", err)
	}
	_, err := h.Put(4, "far", 1, "x")
	checkErr(t, "Put", err, api.ErrFull)
	for _, u := range []int{0, 2, 4} {
		commit(t, h, u)
	}
	checkAnew(t, h, d)
}

// Promise 4.6: what comes to a full queue, counted there or not, with those of the batch ahead, goes to Dead's, and stays there; Dead's is never full.
func TestDead(t *testing.T) {
	h, d := named(t)
	for i := range api.MaxDepth - 2 {
		put(t, h, 0, "in", 1, 4*i+1)
	}
	commit(t, h, 0)
	get(t, h, 0, "in", 1)
	put(t, h, 1, "in", 1, 73)
	arrives(t, h, 0, 1, to1(0, 9, "in"), to1(4, 9, "in"), to1(8, 0, "none"), to1(12, 1, "out"), to1(16, 0, "far"), to1(20, 0, "dead"))
	checkThere(t, h, api.Dead, 4, 8, 16, 20)
	checkThere(t, h, "out", 12)
	l, _ := h.There(api.Dead)
	if want := to1(4, 9, "in"); l[0] != want { // it is the message that it was
		t.Errorf("in Dead: %v, want %v", l[0], want)
	}
	// What the units did is not done: there is room in the queue now, but what went to Dead's is there.
	anew := open(t, d)
	checkThere(t, anew, api.Dead, 4, 8, 16, 20)
	if l, _ := anew.There("in"); len(l) != api.MaxDepth-1 || l[0].Id != 0 || l[1].Id != 1 {
		t.Errorf("There = %v", l)
	}
	commit(t, h, 0)
	commit(t, h, 1)
	for i := range api.MaxDepth + 5 {
		arrives(t, h, 0, i+2, to1(100+4*i, 0, "none"))
	}
	if l, _ := h.There(api.Dead); len(l) != 4+api.MaxDepth+5 {
		t.Errorf("%d in Dead", len(l))
	}
	h = checkAnew(t, h, d)
	get(t, h, 3, api.Dead, 4)
	get(t, h, 3, api.Dead, 8)
	commit(t, h, 3)
	checkAnew(t, h, d)
}

// Promise 4.6: a batch that arrives while a unit takes: what that took is in the queue yet.
func TestArrivesWhileTaken(t *testing.T) {
	h, d := named(t)
	arrives(t, h, 2, 1, to1(2, 5, "in"), to1(6, 5, "in"))
	get(t, h, 0, "in", 2)
	_, err := h.Arrives(2, 2, []api.Message{to1(2, 5, "out")})
	checkErr(t, "what is taken", err, api.ErrTwice)
	arrives(t, h, 2, 2, to1(10, 5, "in"))
	checkThere(t, h, "in", 6, 10)
	checkThere(t, open(t, d), "in", 2, 6, 10)
	ok(t, "Backout", h.Backout(0))
	checkThere(t, h, "in", 2, 6, 10)
	get(t, h, 0, "in", 2)
	commit(t, h, 0)
	arrives(t, h, 0, 1, to1(2, 5, "in")) // it is gone: its number may come anew
	checkThere(t, h, "in", 6, 10, 2)
	checkAnew(t, h, d)
}

// Promise 4.3: the count, when a house is opened, is one more than the greatest one that a unit that is over put.
func TestCountBehindOpening(t *testing.T) {
	h, d := named(t)
	put(t, h, 0, "in", 0, 1)
	h = open(t, d)
	put(t, h, 0, "in", 0, 1) // nobody was over
	put(t, h, 1, "far", 0, 5)
	put(t, h, 2, "in", 0, 9)
	put(t, h, 3, "in", 0, 13)
	commit(t, h, 2)
	commit(t, h, 1)
	ok(t, "Backout", h.Backout(3))
	put(t, h, 3, "in", 0, 17) // what is taken back counts, while the house is open
	h = open(t, d)
	put(t, h, 0, "in", 0, 13)
	get(t, h, 0, "in", 9)
	commit(t, h, 0)
	h = open(t, d)
	get(t, h, 0, "in", 13)
	commit(t, h, 0)
	h = open(t, d)
	put(t, h, 0, "far", 0, 17) // the greatest one is gone, but was put
	commit(t, h, 0)
	checkBatch(t, h, 2, 1, 5, 17)
	ok(t, "Came", h.Came(2, 1))
	arrives(t, h, 3, 1, to1(403, 0, "in"), to1(402, 0, "none")) // of other houses
	h = open(t, d)
	put(t, h, 0, "in", 0, 21)
	h = open(t, d)
	put(t, h, 4, "in", 0, 21)
}

// Promise 4.5: batches, and what is in doubt as it stood when the batch was made.
func TestBatch(t *testing.T) {
	h, d := named(t)
	for i, p := range []int{1, 3, 2, 3, 1} {
		put(t, h, 0, "far", p, 4*i+1)
	}
	_, _, err := h.Batch(2)
	checkErr(t, "Batch of what is not there yet", err, api.ErrNone)
	commit(t, h, 0)
	checkDoubt(t, h, 2, 0)
	used := h.Used()
	checkBatch(t, h, 2, 1, 5, 13, 9)
	checkDoubt(t, h, 2, 1, 5, 13, 9)
	checkWaits(t, h, 2, 5, 13, 9, 1, 17)
	put(t, h, 0, "far", 9, 21)
	put(t, h, 0, "far", 3, 25)
	commit(t, h, 0)
	checkBatch(t, h, 2, 1, 5, 13, 9)
	checkBatch(t, h, 2, 1, 5, 13, 9)
	checkDoubt(t, h, 2, 1, 5, 13, 9)
	if h.Used() != used+2 {
		t.Errorf("Used = %d, was %d: a batch that is made is not written again", h.Used(), used)
	}
	h = checkAnew(t, h, d)
	checkBatch(t, h, 2, 1, 5, 13, 9)
	for _, number := range []int{math.MinInt, -1, 0, 2, math.MaxInt} {
		checkErr(t, "Came of another number", h.Came(2, number), api.ErrNone)
	}
	checkErr(t, "Came of another house", h.Came(3, 1), api.ErrNone)
	ok(t, "Came", h.Came(2, 1))
	checkDoubt(t, h, 2, 0)
	checkWaits(t, h, 2, 21, 25, 1, 17)
	checkErr(t, "Came twice", h.Came(2, 1), api.ErrNone)
	h = checkAnew(t, h, d)
	checkErr(t, "Came twice", h.Came(2, 1), api.ErrNone)
	checkBatch(t, h, 2, 2, 21, 25, 1)
	checkErr(t, "Came of the one ahead", h.Came(2, 1), api.ErrNone)
	ok(t, "Came", h.Came(2, 2))
	checkBatch(t, h, 2, 3, 17)
	ok(t, "Came", h.Came(2, 3))
	_, _, err = h.Batch(2)
	checkErr(t, "Batch", err, api.ErrNone)
	checkAnew(t, h, d)
}

// Promise 4.5: a unit that is not over holds its messages back; those behind them go.
func TestBatchAheadOfUnit(t *testing.T) {
	h, d := named(t)
	put(t, h, 0, "far", 5, 1)
	put(t, h, 1, "far", 1, 5)
	commit(t, h, 1)
	checkBatch(t, h, 2, 1, 5)
	commit(t, h, 0)
	checkBatch(t, h, 2, 1, 5)
	checkWaits(t, h, 2, 1, 5)
	ok(t, "Came", h.Came(2, 1))
	checkWaits(t, h, 2, 1)
	checkAnew(t, h, d)
}

// Promises 4.4 to 4.6: each house by itself.
func TestEachHouse(t *testing.T) {
	h, d := named(t)
	for _, k := range []int{0, 3} {
		ok(t, "Name", h.Name(api.Name{Name: fmt.Sprint("far", k), To: "in", House: k}))
		put(t, h, 0, fmt.Sprint("far", k), 0, 4*k+1)
		if k == 0 {
			put(t, h, 0, "far", 0, 5)
			put(t, h, 0, "far", 0, 9)
		}
	}
	commit(t, h, 0)
	checkBatch(t, h, 0, 1, 1)
	checkBatch(t, h, 2, 1, 5, 9)
	checkBatch(t, h, 3, 1, 13)
	ok(t, "Came", h.Came(2, 1))
	checkDoubt(t, h, 0, 1, 1)
	checkDoubt(t, h, 2, 0)
	checkDoubt(t, h, 3, 1, 13)
	arrives(t, h, 0, 1)
	arrives(t, h, 3, 1)
	arrives(t, h, 3, 2)
	checkArrived(t, h, 0, 1)
	checkArrived(t, h, 2, 0)
	checkArrived(t, h, 3, 2)
	checkAnew(t, h, d)
}

// Promises 4.4 to 4.6: numbers that are no other house's, ahead of all else, also when the house is Down.
func TestNoOtherHouse(t *testing.T) {
	h, d := named(t)
	for _, down := range []bool{false, true} {
		if down {
			d.Cut(0)
			checkErr(t, "Unname", h.Unname("in"), api.ErrDevice)
		}
		for _, k := range []int{math.MinInt, -1, 1, api.MaxHouses, math.MaxInt} {
			checkRefused(t, h, map[string]func() (any, error){
				"Waits":   func() (any, error) { l, err := h.Waits(k); return len(l), err },
				"Batch":   func() (any, error) { return batchOf(h, k) },
				"Came":    func() (any, error) { return 0, h.Came(k, 0) },
				"Doubt":   func() (any, error) { n, l, err := h.Doubt(k); return n + len(l), err },
				"Arrives": func() (any, error) { return h.Arrives(k, 0, []api.Message{{}}) },
				"Arrived": func() (any, error) { return h.Arrived(k) },
			}, api.ErrRange)
		}
	}
}

// Promise 4.6: a batch that arrives twice is nothing, whatever is in it; one out of order is refused.
func TestArrivesTwice(t *testing.T) {
	h, d := named(t)
	_, err := h.Arrives(2, 2, []api.Message{to1(2, 1, "in")})
	checkErr(t, "the second one ahead", err, api.ErrOrder)
	arrives(t, h, 2, 1, to1(2, 1, "in"))
	arrives(t, h, 2, 2, to1(6, 1, "in"))
	for _, h := range []*house.House{h, open(t, d)} {
		was := told(h)
		for _, number := range []int{math.MinInt, -1, 0, 1, 2} {
			for _, l := range [][]api.Message{nil, {to1(2, 1, "in")}, {to1(10, 1, "in")}, {{}}} {
				if n, err := h.Arrives(2, number, l); n != 2 || err != nil {
					t.Errorf("Arrives once more = %d, %v", n, err)
				}
			}
		}
		for _, number := range []int{4, 5, math.MaxInt} {
			for _, l := range [][]api.Message{nil, {to1(10, 1, "in")}, {{}}} {
				n, err := h.Arrives(2, number, l)
				checkErr(t, "out of order", err, api.ErrOrder)
				if n != 0 {
					t.Errorf("Arrives = %d with an error", n)
				}
			}
		}
		if told(h) != was {
			t.Errorf("something changed:\n%s\nit was:\n%s", told(h), was)
		}
	}
	arrives(t, h, 2, 3)
	checkThere(t, h, "in", 2, 6)
	checkAnew(t, h, d)
}

// Promise 4.6: messages that may not come; ErrArg of any ahead of ErrTwice of another one.
func TestArrivesWrong(t *testing.T) {
	h, _ := named(t)
	arrives(t, h, 2, 1, to1(2, 1, "in"), to1(6, 1, "none"))
	put(t, h, 0, "far", 1, 1)
	commit(t, h, 0)
	right := to1(10, 1, "in")
	changed := func(change func(m *api.Message)) api.Message {
		m := to1(14, 1, "in")
		change(&m)
		return m
	}
	refused := func(want api.Errno, l ...api.Message) {
		t.Helper()
		checkRefused(t, h, map[string]func() (any, error){
			fmt.Sprint("Arrives of ", l): func() (any, error) { return h.Arrives(2, 2, l) },
		}, want)
	}
	for _, m := range []api.Message{
		{},
		changed(func(m *api.Message) { m.Id = -2 }),
		changed(func(m *api.Message) { m.Id = api.MaxId + 2 }),
		changed(func(m *api.Message) { m.Id = 1 }),
		changed(func(m *api.Message) { m.Id = 401 }),
		changed(func(m *api.Message) { m.Priority = -1 }),
		changed(func(m *api.Message) { m.Priority = api.MaxPriority + 1 }),
		changed(func(m *api.Message) { m.Body = "" }),
		changed(func(m *api.Message) { m.Body = "a\n" }),
		changed(func(m *api.Message) { m.Queue = "" }),
		changed(func(m *api.Message) { m.Queue = "a:b" }),
		changed(func(m *api.Message) { m.House = 0 }),
		changed(func(m *api.Message) { m.House = 2 }),
		changed(func(m *api.Message) { m.House = api.MaxHouses }),
		changed(func(m *api.Message) { m.House = -1 }),
	} {
		refused(api.ErrArg, m)
		refused(api.ErrArg, right, m)
		refused(api.ErrArg, m, right)
		refused(api.ErrArg, to1(2, 1, "in"), m)
		refused(api.ErrArg, right, right, m)
	}
	refused(api.ErrTwice, to1(2, 1, "in"))
	refused(api.ErrTwice, to1(2, 3, "out"))
	refused(api.ErrTwice, right, to1(6, 1, "in"))
	refused(api.ErrTwice, right, to1(14, 1, "in"), right)
	refused(api.ErrTwice, to1(14, 1, "in"), to1(14, 1, "none"))
	ok(t, "Unname", h.Unname("in"))
	refused(api.ErrTwice, to1(2, 1, "out")) // also of a queue that is local no more
	arrives(t, h, 2, 2, right, to1(api.MaxId, 9, "out"), to1(3, 0, "out"))
	arrives(t, h, 3, 1, to1(14, 1, "out"))
	checkThere(t, h, "out", api.MaxId, 14, 3)
}

// Promise 4.6: each message in turn, behind all that came ahead.
func TestArrivesInTurn(t *testing.T) {
	h, d := named(t)
	put(t, h, 0, "in", 1, 1)
	commit(t, h, 0)
	arrives(t, h, 2, 1, to1(18, 1, "in"), to1(2, 2, "in"), to1(10, 1, "in"))
	arrives(t, h, 0, 1, to1(4, 1, "in"), to1(0, 2, "in"))
	checkThere(t, h, "in", 2, 0, 1, 18, 10, 4)
	checkAnew(t, h, d)
}

// P4: what is handed in is not changed or kept, what comes out is fresh.
func TestMemory(t *testing.T) {
	h, d := named(t)
	room := []api.Message{to1(2, 1, "in"), to1(6, 1, "none"), to1(2, 7, "out")}
	was := slices.Clone(room)
	arrives(t, h, 2, 1, room[:2]...)
	if !plain.Same(room, was) {
		t.Errorf("Arrives changed its list: %v", room)
	}
	put(t, h, 0, "far", 1, 1)
	commit(t, h, 0)
	checkBatch(t, h, 2, 1, 1)
	before := told(h)
	clear(room)
	clear(h.Names())
	clear(h.Kept())
	l, _ := h.There("in")
	clear(l)
	l, _ = h.Waits(2)
	clear(l)
	_, l, _ = h.Batch(2)
	clear(l)
	_, n, _ := h.Doubt(2)
	clear(n)
	if told(h) != before {
		t.Errorf("lists share memory:\n%s\nit was:\n%s", told(h), before)
	}
	checkAnew(t, h, d)
}
