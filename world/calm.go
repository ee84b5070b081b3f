package world

import (
	"cmp"
	"slices"

	"waybill/api"
	"waybill/house"
)

// Calm lets so many rounds go by in which nothing is lost, and power is on: houses that are down are opened anew; all under way comes, the first one first, with all that is sent by that; then, for each two houses, the one sends what is for the other one, and all comes likewise.
func (w *World) Calm(rounds int) {
	for range rounds {
		before := w.written()
		w.round()
		if w.written() == before {
			return // the rounds behind it would find what it left, and it found the same
		}
	}
}

func (w *World) round() {
	for k := range w.sites {
		w.sites[k].disk.Cut(-1)
		if w.latest(k).Down() {
			w.open(k)
		}
	}
	w.allComes()
	for k := range w.sites {
		for to := range w.sites {
			// An error is none here: there may be nothing to send.
			w.Send(k, to)
			w.allComes()
		}
	}
}

// allComes ends: by a batch one Ack is sent at most, by an Ack nothing.
func (w *World) allComes() {
	for w.Many() > 0 {
		w.Deliver(0)
	}
}

// written is how much is, on all disks.
func (w *World) written() int {
	n := 0
	for _, h := range w.allLatest() {
		n += h.Used()
	}
	return n
}

// Ledger is each message that was put, and not taken, wherever it is, once: in order of their numbers. (What is on its way, and arrived, is where it arrived.)
func (w *World) Ledger() []api.Message {
	var l []api.Message
	houses := w.allLatest()
	for k, h := range houses {
		l = append(l, h.Kept()...)
		for to := range api.MaxHouses {
			arrived := 0 // at a house that is not of the world nothing does
			if w.has(to) {
				arrived, _ = houses[to].Arrived(k)
			}
			l = append(l, notArrived(h, to, arrived)...)
		}
	}
	slices.SortStableFunc(l, func(a, b api.Message) int { return cmp.Compare(a.Id, b.Id) })
	return l
}

// notArrived are the messages that wait for another house, at which so many batches arrived: without those that did with them, of which this house may not know.
func notArrived(h *house.House, to, arrived int) []api.Message {
	l, err := h.Waits(to)
	if err != nil {
		return nil // it is no other house
	}
	number, doubt, err := h.Doubt(to)
	if err != nil || number > arrived {
		return l
	}
	return slices.DeleteFunc(l, func(m api.Message) bool { return slices.Contains(doubt, m.Id) })
}

func (w *World) allLatest() []*house.House {
	var l []*house.House
	for k := range w.sites {
		l = append(l, w.latest(k))
	}
	return l
}
