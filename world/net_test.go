package world_test

import (
	"fmt"
	"math"
	"testing"

	"waybill/api"
	"waybill/world"
)

// Promise 6.1: a batch is sent, comes, its Ack is sent, comes, and nothing waits.
func TestThereAndAck(t *testing.T) {
	w := made(t, 2)
	l := puts(t, w, 0, 1, 4)
	checkWaits(t, w, 0, 1, l...)
	checkLedger(t, w, l...)
	send(t, w, 0, 1)
	checkNet(t, w, 1, 0)
	checkDoubt(t, w, 0, 1, 1)
	checkArrived(t, w, 1, 0, 0)
	checkLedger(t, w, l...)
	deliver(t, w, 0)
	checkNet(t, w, 1, 0) // the Ack
	checkThere(t, w, 1, l[:3]...)
	checkArrived(t, w, 1, 0, 1)
	checkWaits(t, w, 0, 1, l...)
	checkDoubt(t, w, 0, 1, 1)
	checkLedger(t, w, l...)
	deliver(t, w, 0)
	checkNet(t, w, 0, 0)
	checkWaits(t, w, 0, 1, l[3])
	checkDoubt(t, w, 0, 1, 0)
	checkLedger(t, w, l...)
	want := api.Message{Id: 0, Priority: 1, Body: "x", Queue: "in", House: 1}
	if m, err := at(t, w, 1).Get(0, "in"); m != want || err != nil {
		t.Errorf("Get = %v, %v, want %v", m, err, want)
	}
}

// Promise 6.1: Send tells Batch's errors, and sends nothing then.
func TestSendErrors(t *testing.T) {
	w := made(t, 3)
	puts(t, w, 0, 1, 1)
	puts(t, w, 0, 3, 1)
	checkErr(t, "to itself", w.Send(0, 0), api.ErrRange)
	checkErr(t, "to a house that is not of the world", w.Send(0, 3), api.ErrRange)
	checkErr(t, "none wait", w.Send(0, 2), api.ErrNone)
	checkErr(t, "none wait", w.Send(1, 0), api.ErrNone)
	at(t, w, 1).Put(0, "to0", 1, "x")
	checkErr(t, "the unit is not over", w.Send(1, 0), api.ErrNone)
	ok(t, "Cut", w.Cut(0, 0, 9))
	checkErr(t, "no power", w.Send(0, 1), api.ErrDevice)
	checkErr(t, "Down", w.Send(0, 1), api.ErrState)
	checkErr(t, "Down, none wait", w.Send(0, 2), api.ErrState)
	checkErr(t, "Down, to itself", w.Send(0, 0), api.ErrRange)
	checkNet(t, w, 0, 0)
	checkWaits(t, w, 0, 1, 0)
	checkDoubt(t, w, 0, 1, 0)
	ok(t, "Restart", w.Restart(0))
	usesUp(t, w, 0, 0)
	checkErr(t, "all is used", w.Send(0, 1), api.ErrLimit)
	checkNet(t, w, 0, 0)
}

// Promise 6.1: a batch that is in doubt needs no write: it is sent without power, too, again and again.
func TestSendAgain(t *testing.T) {
	w := made(t, 2)
	l := puts(t, w, 0, 1, 2)
	send(t, w, 0, 1)
	ok(t, "Cut", w.Cut(0, 0, 9))
	send(t, w, 0, 1)
	ok(t, "Restart", w.Restart(0))
	send(t, w, 0, 1)
	checkNet(t, w, 3, 0)
	for i := range 3 {
		deliver(t, w, 0)
		checkNet(t, w, 3, 0)
		checkThere(t, w, 1, l...)
		checkArrived(t, w, 1, 0, 1)
		checkLedger(t, w, l...)
		if at(t, w, 1).Used() != 6 {
			t.Errorf("batch sent %d times: Used %d", i+1, at(t, w, 1).Used())
		}
	}
}

// three is a world in which house 0 sent a batch each to 1, 2, 3, in this order.
func three(t *testing.T) *world.World {
	t.Helper()
	w := made(t, 4)
	for to := 1; to < 4; to++ {
		puts(t, w, 0, to, 1)
	}
	for to := 1; to < 4; to++ {
		send(t, w, 0, to)
	}
	checkNet(t, w, 3, 0)
	return w
}

// arrivals are how many batches of house 0 the others have.
func arrivals(t *testing.T, w *world.World) [3]int {
	t.Helper()
	var out [3]int
	for k := range out {
		out[k], _ = at(t, w, k+1).Arrived(0)
	}
	return out
}

// Promise 6.1: Deliver, Lose and Twice are of the i-th; what is sent is behind all others, and the others stay in order.
func TestTheIth(t *testing.T) {
	for i := range 3 {
		w := three(t)
		deliver(t, w, i)
		var want [3]int
		want[i] = 1
		if got := arrivals(t, w); got != want {
			t.Errorf("Deliver(%d): %v", i, got)
		}
		checkNet(t, w, 3, 0)
		deliver(t, w, 2) // its Ack, behind the others
		checkDoubt(t, w, 0, i+1, 0)
		checkNet(t, w, 2, 0)

		w = three(t)
		ok(t, "Lose", w.Lose(i))
		checkNet(t, w, 2, 0)
		deliver(t, w, 0)
		deliver(t, w, 0)
		if got := arrivals(t, w); got != [3]int{1 - want[0], 1 - want[1], 1 - want[2]} {
			t.Errorf("Lose(%d): %v", i, got)
		}

		w = three(t)
		ok(t, "Twice", w.Twice(i))
		checkNet(t, w, 4, 0)
		deliver(t, w, 3)
		if got := arrivals(t, w); got != want {
			t.Errorf("Twice(%d): %v", i, got)
		}
		for k := range 3 {
			deliver(t, w, 0)
			want[k] = 1
			if got := arrivals(t, w); got != want {
				t.Errorf("Twice(%d), behind %d: %v, want %v", i, k, got, want)
			}
		}
	}
}

// Promise 6.1: no such one is under way: ErrRange, and nothing is changed.
func TestNotUnderWay(t *testing.T) {
	calls := func(w *world.World) map[string]func(int) error {
		return map[string]func(int) error{"Deliver": w.Deliver, "Lose": w.Lose, "Twice": w.Twice}
	}
	empty := made(t, 2)
	for what, call := range calls(empty) {
		for _, i := range []int{math.MinInt, -1, 0, 1, math.MaxInt} {
			checkErr(t, fmt.Sprint(what, " ", i), call(i), api.ErrRange)
		}
	}
	checkNet(t, empty, 0, 0)
	w := three(t)
	before := told(w, 4)
	for what, call := range calls(w) {
		for _, i := range []int{math.MinInt, -1, 3, 4, api.MaxNet, math.MaxInt} {
			checkErr(t, fmt.Sprint(what, " ", i), call(i), api.ErrRange)
		}
	}
	if now := told(w, 4); now != before {
		t.Errorf("%s\nit was\n%s", now, before)
	}
}

// full is a world of two houses in which MaxNet are under way: batch 1 of house 0, again and again. House 1 has messages for house 0.
func full(t *testing.T) *world.World {
	t.Helper()
	w := made(t, 2)
	puts(t, w, 0, 1, 2)
	puts(t, w, 1, 0, 2)
	send(t, w, 0, 1)
	for i := range api.MaxNet - 1 {
		checkNet(t, w, i+1, 0)
		ok(t, "Twice", w.Twice(i))
	}
	checkNet(t, w, api.MaxNet, 0)
	return w
}

// Promise 6.1: with MaxNet under way what is sent is lost: a batch is made all the same.
func TestMaxNet(t *testing.T) {
	w := full(t)
	for i := range 5 {
		ok(t, "Twice", w.Twice(i*20))
		checkNet(t, w, api.MaxNet, i+1)
	}
	send(t, w, 1, 0)
	checkNet(t, w, api.MaxNet, 6)
	checkDoubt(t, w, 1, 0, 1)
	checkLedger(t, w, 0, 1, 4, 5)
	ok(t, "Lose", w.Lose(50))
	checkNet(t, w, api.MaxNet-1, 6)
	send(t, w, 1, 0)
	checkNet(t, w, api.MaxNet, 6)
	deliver(t, w, api.MaxNet-1) // what was sent last
	checkThere(t, w, 0, 1, 5)
	checkNet(t, w, api.MaxNet, 6) // what comes makes room for its Ack
	deliver(t, w, api.MaxNet-1)
	checkDoubt(t, w, 1, 0, 0)
	checkNet(t, w, api.MaxNet-1, 6)
	checkLedger(t, w, 0, 1, 4, 5)
}

// Promises 6.1 and 6.2: all of MaxNet come in calm, with all that is sent by them; nothing more is lost.
func TestMaxNetInCalm(t *testing.T) {
	w := full(t)
	send(t, w, 1, 0)
	w.Calm(1)
	checkNet(t, w, 0, 1)
	checkThere(t, w, 0, 1, 5)
	checkThere(t, w, 1, 0, 4)
	checkWaits(t, w, 0, 1)
	checkWaits(t, w, 1, 0)
	checkLedger(t, w, 0, 1, 4, 5)
}

// Promise 6.1: an Ack that comes twice is nothing the second time.
func TestAckTwice(t *testing.T) {
	w := made(t, 2)
	l := puts(t, w, 0, 1, 5)
	send(t, w, 0, 1)
	deliver(t, w, 0)
	ok(t, "Twice", w.Twice(0))
	checkNet(t, w, 2, 0)
	deliver(t, w, 0)
	used := at(t, w, 0).Used()
	deliver(t, w, 0)
	checkNet(t, w, 0, 0)
	checkWaits(t, w, 0, 1, l[3:]...)
	if at(t, w, 0).Used() != used {
		t.Error("the second Ack is written")
	}
	checkLedger(t, w, l...)
}

// Promise 6.1: an Ack that comes late, when the next batch is in doubt, is nothing to that.
func TestAckLate(t *testing.T) {
	w := made(t, 2)
	l := puts(t, w, 0, 1, 5)
	send(t, w, 0, 1)
	deliver(t, w, 0)
	ok(t, "Twice", w.Twice(0))
	deliver(t, w, 0)
	send(t, w, 0, 1) // batch 2, behind the late Ack of batch 1
	deliver(t, w, 0)
	checkDoubt(t, w, 0, 1, 2)
	checkWaits(t, w, 0, 1, l[3:]...)
	checkThere(t, w, 1, l[:3]...)
	checkLedger(t, w, l...)
	ok(t, "Lose", w.Lose(0))
	checkLedger(t, w, l...)
	w.Calm(1)
	checkThere(t, w, 1, l...)
	checkWaits(t, w, 0, 1)
	checkLedger(t, w, l...)
}

// Promise 6.1: a batch that comes late is nothing, though its messages are taken; its Ack tells what arrived.
func TestBatchLate(t *testing.T) {
	w := made(t, 2)
	l := puts(t, w, 0, 1, 5)
	send(t, w, 0, 1)
	ok(t, "Twice", w.Twice(0))
	deliver(t, w, 0)
	deliver(t, w, 1)
	checkNet(t, w, 1, 0) // batch 1, late
	for _, id := range l[:3] {
		takes(t, w, 1, id)
	}
	send(t, w, 0, 1)
	deliver(t, w, 1)
	ok(t, "Lose", w.Lose(1)) // batch 2 arrived, of which nobody knows
	checkLedger(t, w, l[3:]...)
	deliver(t, w, 0)
	checkThere(t, w, 1, l[3:]...)
	checkNet(t, w, 1, 0)
	checkDoubt(t, w, 0, 1, 2)
	deliver(t, w, 0) // an Ack of both
	checkDoubt(t, w, 0, 1, 0)
	checkWaits(t, w, 0, 1)
	checkLedger(t, w, l[3:]...)
}

// Promise 6.1: a batch that arrived, of which nobody knows: it is sent again, arrives as nothing, and its Ack is sent again.
func TestAckLost(t *testing.T) {
	w := made(t, 2)
	l := puts(t, w, 0, 1, 2)
	send(t, w, 0, 1)
	deliver(t, w, 0)
	ok(t, "Lose", w.Lose(0))
	checkNet(t, w, 0, 0)
	checkLedger(t, w, l...)
	takes(t, w, 1, l[0])
	checkLedger(t, w, l[1])
	takes(t, w, 1, l[1])
	checkLedger(t, w)
	checkWaits(t, w, 0, 1, l...)
	more := puts(t, w, 0, 1, 1)
	checkLedger(t, w, more...)
	send(t, w, 0, 1)
	deliver(t, w, 0)
	checkThere(t, w, 1)
	deliver(t, w, 0)
	checkWaits(t, w, 0, 1, more...)
	checkLedger(t, w, more...)
}

// Promise 6.1: if Arrives tells an error, nothing is sent: the house is Down, has no power, has no room to write, or the batch is out of order.
func TestNoAck(t *testing.T) {
	for what, spoil := range map[string]func(w *world.World){
		"no power": func(w *world.World) { ok(t, "Cut", w.Cut(1, 0, 7)) },
		"Down": func(w *world.World) {
			ok(t, "Cut", w.Cut(1, 0, 7))
			checkErr(t, "Name", at(t, w, 1).Name(local("more")), api.ErrDevice)
			ok(t, "Cut", w.Cut(1, -1, 7))
		},
		"all is used": func(w *world.World) { usesUp(t, w, 1, 0) },
		"out of order": func(w *world.World) {
			ok(t, "Came", at(t, w, 0).Came(1, 1))
			ok(t, "Lose", w.Lose(0))
			send(t, w, 0, 1)
		},
	} {
		w := made(t, 2)
		puts(t, w, 0, 1, 5)
		send(t, w, 0, 1)
		spoil(w)
		deliver(t, w, 0)
		if w.Many() != 0 || w.Lost() != 0 {
			t.Errorf("%s: Many %d, Lost %d", what, w.Many(), w.Lost())
		}
		checkThere(t, w, 1)
		checkArrived(t, w, 1, 0, 0)
	}
}

// Promise 6.1: if Came tells an error, that is nothing, and the Ack is gone.
func TestAckToNobody(t *testing.T) {
	w := made(t, 2)
	l := puts(t, w, 0, 1, 2)
	send(t, w, 0, 1)
	deliver(t, w, 0)
	ok(t, "Twice", w.Twice(0))
	ok(t, "Cut", w.Cut(0, 0, 7))
	deliver(t, w, 0)
	deliver(t, w, 0)
	checkNet(t, w, 0, 0)
	if !at(t, w, 0).Down() || at(t, w, 1).Down() {
		t.Error("house 0 is not Down, or house 1 is")
	}
	checkWaits(t, w, 0, 1, l...)
	checkLedger(t, w, l...)
}

// Promise 6.1: batches of several houses are told apart, by whom and for whom.
func TestByWhomAndForWhom(t *testing.T) {
	w := made(t, 4)
	for k := range 4 {
		for to := range 4 {
			if k != to {
				puts(t, w, k, to, 1)
				send(t, w, k, to)
			}
		}
	}
	checkNet(t, w, 12, 0)
	for range 12 {
		deliver(t, w, 0)
	}
	checkNet(t, w, 12, 0)
	checkThere(t, w, 0, 1, 2, 3)
	checkThere(t, w, 1, 0, 6, 7)
	checkThere(t, w, 2, 4, 5, 11)
	checkThere(t, w, 3, 8, 9, 10)
	for i := range 12 {
		deliver(t, w, 11-i) // of the Acks the last one first
	}
	for k := range 4 {
		for to := range 4 {
			if k != to {
				checkWaits(t, w, k, to)
				checkArrived(t, w, to, k, 1)
			}
		}
	}
	checkLedger(t, w, 0, 1, 2, 3, 4, 5, 6, 7, 8, 9, 10, 11)
}
