package world_test

import (
	"fmt"
	"math"
	"slices"
	"testing"

	"waybill/api"
	"waybill/world"
)

// Promise 6.2: no rounds: nothing is done.
func TestNoRounds(t *testing.T) {
	w := made(t, 2)
	puts(t, w, 0, 1, 2)
	puts(t, w, 1, 0, 2)
	send(t, w, 0, 1)
	ok(t, "Cut", w.Cut(1, 0, 5))
	checkErr(t, "Send", w.Send(1, 0), api.ErrDevice)
	before := told(w, 2)
	for _, rounds := range []int{0, -1, math.MinInt} {
		w.Calm(rounds)
		if now := told(w, 2); now != before {
			t.Errorf("Calm(%d): %s\nit was\n%s", rounds, now, before)
		}
	}
	ok(t, "Cut", w.Cut(0, 0, 5))
	w.Calm(0)
	checkErr(t, "no power", at(t, w, 0).Name(local("more")), api.ErrDevice)
}

// Promise 6.2: in a round each house sends once to each other one: a batch each.
func TestRounds(t *testing.T) {
	for n := 2; n <= api.MaxHouses; n++ {
		for rounds := range 4 {
			w := made(t, n)
			var all []int
			sent := map[[2]int][]int{}
			for k := range n {
				for to := range n {
					if k != to {
						sent[[2]int{k, to}] = puts(t, w, k, to, 5)
						all = append(all, sent[[2]int{k, to}]...)
					}
				}
			}
			w.Calm(rounds)
			checkNet(t, w, 0, 0)
			came := min(rounds*api.MaxBatch, 5)
			for pair, l := range sent {
				checkWaits(t, w, pair[0], pair[1], l[came:]...)
				checkDoubt(t, w, pair[0], pair[1], 0)
				checkArrived(t, w, pair[1], pair[0], min(rounds, 2))
			}
			slices.Sort(all)
			checkLedger(t, w, all...)
		}
	}
}

// Promise 6.2: the houses send by their numbers: what came to a queue stands so.
func TestByHouses(t *testing.T) {
	w := made(t, 4)
	for k := 3; k >= 0; k-- {
		if k != 2 {
			puts(t, w, k, 2, 4)
		}
	}
	w.Calm(1)
	checkThere(t, w, 2, 0, 4, 8, 1, 5, 9, 3, 7, 11)
	w.Calm(1)
	checkThere(t, w, 2, 0, 4, 8, 1, 5, 9, 3, 7, 11, 12, 13, 15)
}

// Promise 6.2: what is under way comes first, the first one first, with the Acks that it sends; then houses send: what is in doubt yet, or the next batch.
func TestUnderWayComesFirst(t *testing.T) {
	w := made(t, 3)
	mine := puts(t, w, 0, 2, 7)
	other := puts(t, w, 1, 2, 4)
	send(t, w, 1, 2)
	send(t, w, 0, 2)
	w.Calm(1)
	checkNet(t, w, 0, 0)
	checkThere(t, w, 2, slices.Concat(other[:3], mine[:6], other[3:])...)
	checkWaits(t, w, 0, 2, mine[6])
	checkWaits(t, w, 1, 2)

	w = made(t, 2)
	mine = puts(t, w, 0, 1, 7)
	send(t, w, 0, 1)
	ok(t, "Lose", w.Lose(0)) // it is in doubt, and made anew
	w.Calm(1)
	checkThere(t, w, 1, mine[:3]...)
	checkArrived(t, w, 1, 0, 1)
	checkWaits(t, w, 0, 1, mine[3:]...)

	w = made(t, 2)
	mine = puts(t, w, 0, 1, 7)
	send(t, w, 0, 1)
	deliver(t, w, 0) // the Ack is under way
	w.Calm(1)
	checkThere(t, w, 1, mine[:6]...)
	checkWaits(t, w, 0, 1, mine[6])
}

// Promise 6.2: all have power, and those that are Down, but no others, are opened anew.
func TestPowerInCalm(t *testing.T) {
	w := made(t, 3)
	for k := range 3 {
		puts(t, w, k, (k+1)%3, 1)
		at(t, w, k).Put(0, "in", 1, "x")
		ok(t, "Cut", w.Cut(k, 0, 11))
	}
	checkErr(t, "Commit", at(t, w, 1).Commit(0), api.ErrDevice)
	w.Calm(1)
	for k := range 3 {
		if at(t, w, k).Down() {
			t.Errorf("house %d is Down", k)
		}
		checkWaits(t, w, k, (k+1)%3)
		want := api.OK // the unit of a house that was not Down is as it was
		if k == 1 {
			want = api.ErrNone
		}
		checkErr(t, fmt.Sprint("Commit of house ", k), at(t, w, k).Commit(0), want)
		puts(t, w, k, k, 1) // the power stays on
	}
	checkThere(t, w, 0, 2, 4, 8)
	checkThere(t, w, 1, 0, 5)
	checkThere(t, w, 2, 1, 6, 10)
	checkLedger(t, w, 0, 1, 2, 4, 5, 6, 8, 10)
}

// Promise 6.2: Calm gives power in its first round, though nothing is to be sent.
func TestPowerWithNothingToSend(t *testing.T) {
	w := made(t, 2)
	ok(t, "Cut", w.Cut(0, 0, 5))
	ok(t, "Cut", w.Cut(1, 0, 5))
	checkErr(t, "Name", at(t, w, 1).Name(local("more")), api.ErrDevice)
	w.Calm(1)
	for k := range 2 {
		ok(t, "Name", at(t, w, k).Name(local("more")))
	}
}

// Promise 6.2: Calm of many rounds is each of them.
func TestManyRounds(t *testing.T) {
	start := func() *world.World {
		w := made(t, 4)
		for k := range 4 {
			puts(t, w, k, (k+1)%4, 20)
			puts(t, w, k, (k+2)%4, 3*k+1)
			send(t, w, k, (k+1)%4)
			ok(t, "Cut", w.Cut(k, k, 9))
		}
		ok(t, "Lose", w.Lose(2))
		deliver(t, w, 0)
		return w
	}
	w := start()
	for rounds := range 20 {
		many := start()
		many.Calm(rounds)
		if got, want := told(many, 4), told(w, 4); got != want {
			t.Errorf("Calm(%d): %s\nwant\n%s", rounds, got, want)
		}
		w.Calm(1)
	}
	many := start()
	many.Calm(10_000)
	if got, want := told(many, 4), told(w, 4); got != want {
		t.Errorf("%s\nwant\n%s", got, want)
	}
}

// Promise 6.2: what is for a house that is not of the world waits, and is in the Ledger.
func TestHouseOfNoWorld(t *testing.T) {
	w := made(t, 2)
	l := puts(t, w, 0, 3, 5)
	other := puts(t, w, 1, 2, 1)
	checkLedger(t, w, l[0], other[0], l[1], l[2], l[3], l[4])
	if n, _, err := at(t, w, 0).Batch(3); n != 1 || err != nil {
		t.Errorf("Batch = %d, %v", n, err)
	}
	w.Calm(10)
	checkWaits(t, w, 0, 3, l...)
	checkWaits(t, w, 1, 2, other...)
	checkDoubt(t, w, 0, 3, 1)
	checkLedger(t, w, l[0], other[0], l[1], l[2], l[3], l[4])
}

// Promise 6.2: where a message is in the Ledger, and where it is not.
func TestLedger(t *testing.T) {
	w := made(t, 2)
	h := at(t, w, 0)
	checkLedger(t, w)
	h.Put(0, "in", 1, "x")
	h.Put(0, "to1", 1, "x")
	checkLedger(t, w) // the unit is not over
	ok(t, "Commit", h.Commit(0))
	checkLedger(t, w, 0, 4)
	h.Get(1, "in")
	checkLedger(t, w, 0, 4) // as it is here
	ok(t, "Commit", h.Commit(1))
	checkLedger(t, w, 4)
	h.Put(2, "in", 9, "x")
	ok(t, "Backout", h.Backout(2))
	checkLedger(t, w, 4)
	ok(t, "Unname", at(t, w, 1).Unname("in"))
	w.Calm(1)
	checkLedger(t, w, 4) // in Dead's queue
	puts(t, w, 0, 0, 1)
	ok(t, "Unname", h.Unname("in"))
	checkLedger(t, w, 4, 12) // of a queue that is none any more
	if m, err := at(t, w, 1).Get(0, api.Dead); m.Id != 4 || err != nil {
		t.Errorf("Get = %v, %v", m, err)
	}
	ok(t, "Commit", at(t, w, 1).Commit(0))
	checkLedger(t, w, 12)
}

// Promise 6.2: the Ledger has messages as they were put, by their Ids, not by houses, queues or priorities.
func TestLedgerByIds(t *testing.T) {
	w := made(t, 4)
	var want []api.Message
	for i := range 12 {
		for k := range 4 {
			m := api.Message{Id: 4*i + k, Priority: (7*i + k) % 10, Body: fmt.Sprintf("b%dk%d", i, k), Queue: "in", House: (i*k + i) % 4}
			id, err := at(t, w, k).Put(0, fmt.Sprint("to", m.House), m.Priority, m.Body)
			if id != m.Id || err != nil {
				t.Fatalf("Put = %d, %v", id, err)
			}
			want = append(want, m)
		}
	}
	for k := range 4 {
		ok(t, "Commit", at(t, w, k).Commit(0))
	}
	for range 10 {
		if got := w.Ledger(); !slices.Equal(got, want) {
			t.Errorf("Ledger = %v, want %v", got, want)
		}
		w.Calm(1)
	}
	if l, err := at(t, w, 0).Waits(1); len(l) > 0 || err != nil {
		t.Errorf("Waits = %v, %v", l, err)
	}
}

// P4: what Ledger tells is the caller's.
func TestLedgerIsFresh(t *testing.T) {
	w := made(t, 2)
	puts(t, w, 0, 1, 3)
	puts(t, w, 0, 0, 3)
	send(t, w, 0, 1)
	before := told(w, 2)
	l := w.Ledger()
	for i := range l {
		l[i] = api.Message{Id: 99, Body: "other"}
	}
	_ = append(l[:2], l[3:]...)
	if now := told(w, 2); now != before {
		t.Errorf("%s\nit was\n%s", now, before)
	}
	w.Calm(2)
	checkLedger(t, w, 0, 4, 8, 12, 16, 20)
}
