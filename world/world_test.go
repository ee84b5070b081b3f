package world_test

import (
	"errors"
	"fmt"
	"math"
	"slices"
	"testing"

	"waybill/api"
	"waybill/house"
	"waybill/world"
)

// local is a queue of the house itself.
func local(s string) api.Name { return api.Name{Name: s, House: -1} }

// made is a world of so many houses; each one has the queue in, and the names to0 to to3 for those of all houses: five writes.
func made(t *testing.T, n int) *world.World {
	t.Helper()
	w, err := world.New(n)
	if err != nil || w == nil {
		t.Fatalf("New(%d) = %v, %v", n, w, err)
	}
	for k := range n {
		h := at(t, w, k)
		ok(t, "Name", h.Name(local("in")))
		for to := range api.MaxHouses {
			ok(t, "Name", h.Name(api.Name{Name: fmt.Sprint("to", to), To: "in", House: to}))
		}
	}
	return w
}

func at(t *testing.T, w *world.World, k int) *house.House {
	t.Helper()
	h, err := w.House(k)
	if err != nil || h == nil {
		t.Fatalf("House(%d) = %v, %v", k, h, err)
	}
	return h
}

// checkErr holds an error against the one that is asked for: an Errno without a place (P3).
func checkErr(t *testing.T, what string, err error, want api.Errno) {
	t.Helper()
	var place *api.At
	if api.Tell(err) != want || errors.As(err, &place) {
		t.Errorf("%s: %v, want %v", what, err, want)
	}
}

func ok(t *testing.T, what string, err error) {
	t.Helper()
	checkErr(t, what, err, api.OK)
}

// puts lets a house put messages by one unit, which is over then: their numbers.
func puts(t *testing.T, w *world.World, k, to, many int) []int {
	t.Helper()
	var l []int
	for range many {
		id, err := at(t, w, k).Put(4, fmt.Sprint("to", to), 1, "x")
		ok(t, "Put", err)
		l = append(l, id)
	}
	ok(t, "Commit", at(t, w, k).Commit(4))
	return l
}

// usesUp lets a house write until it has room for so many writes more.
func usesUp(t *testing.T, w called, k, left int) {
	t.Helper()
	h, err := w.House(k)
	ok(t, "House", err)
	for h.Used() < api.MaxLog-left {
		if err := h.Name(local("more")); err != nil {
			t.Fatal(err)
		}
	}
}

// takes lets a house take the first message of in, by one unit, which is over then.
func takes(t *testing.T, w *world.World, k, id int) {
	t.Helper()
	m, err := at(t, w, k).Get(4, "in")
	if m.Id != id || err != nil {
		t.Errorf("Get = %v, %v, want %d", m, err, id)
	}
	ok(t, "Commit", at(t, w, k).Commit(4))
}

func send(t *testing.T, w *world.World, k, to int) {
	t.Helper()
	ok(t, fmt.Sprintf("Send(%d, %d)", k, to), w.Send(k, to))
}

func deliver(t *testing.T, w *world.World, i int) {
	t.Helper()
	ok(t, fmt.Sprintf("Deliver(%d)", i), w.Deliver(i))
}

func ids(l []api.Message) []int {
	out := []int{}
	for _, m := range l {
		out = append(out, m.Id)
	}
	return out
}

func checkIds(t *testing.T, what string, got []api.Message, want ...int) {
	t.Helper()
	if !slices.Equal(ids(got), want) {
		t.Errorf("%s: %v, want %v", what, ids(got), want)
	}
}

func checkThere(t *testing.T, w *world.World, k int, want ...int) {
	t.Helper()
	l, err := at(t, w, k).There("in")
	ok(t, "There", err)
	checkIds(t, fmt.Sprint("There of house ", k), l, want...)
}

func checkWaits(t *testing.T, w *world.World, k, to int, want ...int) {
	t.Helper()
	l, err := at(t, w, k).Waits(to)
	ok(t, "Waits", err)
	checkIds(t, fmt.Sprint("Waits of house ", k, " for ", to), l, want...)
}

func checkDoubt(t *testing.T, w *world.World, k, to, number int) {
	t.Helper()
	if n, l, err := at(t, w, k).Doubt(to); n != number || err != nil {
		t.Errorf("Doubt of house %d for %d: %d, %v, %v, want %d", k, to, n, l, err, number)
	}
}

func checkArrived(t *testing.T, w *world.World, k, from, want int) {
	t.Helper()
	if n, err := at(t, w, k).Arrived(from); n != want || err != nil {
		t.Errorf("Arrived of house %d from %d: %d, %v, want %d", k, from, n, err, want)
	}
}

// checkNet holds Many and Lost.
func checkNet(t *testing.T, w *world.World, many, lost int) {
	t.Helper()
	if w.Many() != many || w.Lost() != lost {
		t.Errorf("Many %d, Lost %d, want %d, %d", w.Many(), w.Lost(), many, lost)
	}
}

func checkLedger(t *testing.T, w *world.World, want ...int) {
	t.Helper()
	checkIds(t, "Ledger", w.Ledger(), want...)
}

// Promise 6.1: a world has 1 to MaxHouses houses, each by its number, and nothing is there at first.
func TestNew(t *testing.T) {
	for _, n := range []int{math.MinInt, -1, 0, api.MaxHouses + 1, 100, math.MaxInt} {
		w, err := world.New(n)
		checkErr(t, fmt.Sprint("New ", n), err, api.ErrRange)
		if w != nil {
			t.Errorf("New(%d): a world with an error", n)
		}
	}
	for n := 1; n <= api.MaxHouses; n++ {
		w, err := world.New(n)
		ok(t, fmt.Sprint("New ", n), err)
		checkNet(t, w, 0, 0)
		checkLedger(t, w)
		for k := range n {
			h := at(t, w, k)
			if h.Used() != 0 || h.Down() || len(h.Names()) != 0 || len(h.Kept()) != 0 {
				t.Errorf("house %d of %d has something at first", k, n)
			}
			ok(t, "Name", h.Name(local("in")))
			if id, err := h.Put(0, "in", 1, "x"); id != k || err != nil {
				t.Errorf("house %d of %d: Put = %d, %v", k, n, id, err)
			}
		}
	}
}

// Promise 6.1: no such house: ErrRange, and nothing is changed.
func TestNoSuchHouse(t *testing.T) {
	for n := 1; n <= api.MaxHouses; n++ {
		w := made(t, n)
		puts(t, w, 0, 0, 2)
		before := told(w, n)
		for _, k := range []int{math.MinInt, -1, n, n + 1, api.MaxHouses, math.MaxInt} {
			h, err := w.House(k)
			checkErr(t, "House", err, api.ErrRange)
			if h != nil {
				t.Errorf("House(%d) of %d: a house with an error", k, n)
			}
			checkErr(t, "Cut", w.Cut(k, 0, 0), api.ErrRange)
			checkErr(t, "Restart", w.Restart(k), api.ErrRange)
			checkErr(t, "Send by none", w.Send(k, 0), api.ErrRange)
			checkErr(t, "Send to none", w.Send(0, k), api.ErrRange)
		}
		if now := told(w, n); now != before {
			t.Errorf("%s\nit was\n%s", now, before)
		}
		puts(t, w, 0, 0, 1) // there is power yet
	}
}

// Promise 6.1: nothing of the houses is another one's.
func TestHousesOfTheirOwn(t *testing.T) {
	w := made(t, 4)
	for k := range 4 {
		for range k {
			puts(t, w, k, k, 1)
		}
	}
	for k := range 4 {
		h := at(t, w, k)
		if len(h.Kept()) != k || h.Used() != 5+k {
			t.Errorf("house %d: Kept %v, Used %d", k, h.Kept(), h.Used())
		}
	}
	ok(t, "Cut", w.Cut(2, 0, 3))
	for k := range 4 {
		want := api.OK
		if k == 2 {
			want = api.ErrDevice
		}
		checkErr(t, fmt.Sprint("Name of house ", k), at(t, w, k).Name(local("more")), want)
		if at(t, w, k).Down() != (k == 2) {
			t.Errorf("house %d: Down %v", k, at(t, w, k).Down())
		}
	}
}

// Promise 6.1: House is the house itself: what one that it told does, another one knows.
func TestHouseIsTheHouse(t *testing.T) {
	w := made(t, 2)
	h := at(t, w, 1)
	h.Put(3, "in", 1, "x")
	ok(t, "Commit", at(t, w, 1).Commit(3))
	if m, err := h.Get(0, "in"); m.Id != 1 || err != nil {
		t.Errorf("Get = %v, %v", m, err)
	}
	ok(t, "Backout", at(t, w, 1).Backout(0))
	checkThere(t, w, 1, 1)
}

// Promise 6.1: Cut is the Disk's: behind how many writes the power goes off; below 0 it is on.
func TestCut(t *testing.T) {
	for n := range 4 {
		w := made(t, 2)
		ok(t, "Cut", w.Cut(1, 77, 0))
		ok(t, "Cut", w.Cut(1, n, n))
		for i := range n {
			ok(t, "Name", at(t, w, 1).Name(local(fmt.Sprint("q", i))))
		}
		checkErr(t, "Name", at(t, w, 1).Name(local("more")), api.ErrDevice)
		if !at(t, w, 1).Down() || at(t, w, 0).Down() {
			t.Error("not the one that is Down is")
		}
		ok(t, "Cut", w.Cut(1, -1-n, 0))
		checkErr(t, "Name", at(t, w, 1).Name(local("more")), api.ErrState) // it is Down, with power, too
		ok(t, "Restart", w.Restart(1))
		for i := range 9 {
			ok(t, "Name", at(t, w, 1).Name(local(fmt.Sprint("p", i))))
		}
	}
}

// Promise 6.1: Restart: there is power, and the house is opened anew, Down or not: with what is written, without what units did that are not over.
func TestRestart(t *testing.T) {
	for _, down := range []bool{false, true} {
		for torn := -1; torn < 60; torn++ {
			w := made(t, 2)
			puts(t, w, 0, 0, 2)
			puts(t, w, 0, 1, 2)
			send(t, w, 0, 1)
			h := at(t, w, 0)
			h.Get(0, "in")
			h.Put(1, "in", 1, "x")
			h.Put(1, "to1", 1, "x")
			at(t, w, 1).Put(2, "in", 1, "x")
			ok(t, "Cut", w.Cut(0, 0, torn))
			if down {
				checkErr(t, "Commit", h.Commit(1), api.ErrDevice)
			}
			ok(t, "Restart", w.Restart(0))
			h = at(t, w, 0)
			if h.Down() || h.Used() != 8 || len(h.Names()) != 5 {
				t.Errorf("Down %v, Used %d, Names %v", h.Down(), h.Used(), h.Names())
			}
			checkThere(t, w, 0, 0, 4)
			checkWaits(t, w, 0, 1, 8, 12)
			checkDoubt(t, w, 0, 1, 1)
			checkErr(t, "Commit", h.Commit(0), api.ErrNone)
			checkErr(t, "Commit", h.Commit(1), api.ErrNone)
			puts(t, w, 0, 0, 1)
			checkThere(t, w, 0, 0, 4, 16)
			ok(t, "Commit of the other house", at(t, w, 1).Commit(2))
			checkNet(t, w, 1, 0)
			deliver(t, w, 0)
			checkThere(t, w, 1, 1, 8, 12)
		}
	}
}

// Promise 6.1: a house that is opened anew keeps its power, until it is cut anew.
func TestRestartAgain(t *testing.T) {
	w := made(t, 1)
	for i := range 9 {
		ok(t, "Cut", w.Cut(0, i%3, i*5))
		for range i % 3 {
			puts(t, w, 0, 0, 1)
		}
		at(t, w, 0).Put(0, "in", 1, "x")
		checkErr(t, "Commit", at(t, w, 0).Commit(0), api.ErrDevice)
		ok(t, "Restart", w.Restart(0))
		ok(t, "Restart", w.Restart(0))
	}
	checkThere(t, w, 0, 0, 4, 8, 12, 16, 20, 24, 28, 32)
}

// Promises 4.1 and 6.3: a House from ahead of a Restart may write, while the one opened then has not; what it puts is once, at the latest when the house is opened anew.
func TestElderHouse(t *testing.T) {
	w := made(t, 2)
	elder := at(t, w, 0)
	ok(t, "Restart", w.Restart(0))
	for range 2 {
		elder.Put(0, "to1", 1, "x")
		elder.Put(0, "in", 1, "x")
		ok(t, "Commit", elder.Commit(0))
	}
	w.Send(0, 1)
	w.Calm(3)
	ok(t, "Restart", w.Restart(0))
	checkLedger(t, w, 0, 4, 8, 12)
	w.Calm(3)
	checkLedger(t, w, 0, 4, 8, 12)
	checkThere(t, w, 0, 4, 12)
	checkThere(t, w, 1, 0, 8)
	puts(t, w, 0, 1, 1)
	checkLedger(t, w, 0, 4, 8, 12, 16)
}
