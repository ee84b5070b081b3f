package world

import (
	"slices"

	"waybill/api"
	"waybill/frame"
)

// parcel is a frame, and the house that it is for.
type parcel struct {
	frame frame.Frame
	to    int
}

// Send lets a house send what is for another one (house.Batch). ErrRange: there is none such; Batch's errors.
func (w *World) Send(k, to int) error {
	if !w.has(k) || !w.has(to) {
		return api.ErrRange
	}
	number, l, err := w.latest(k).Batch(to)
	if err != nil {
		return err
	}
	w.send(parcel{frame.Frame{From: k, Number: number, List: l}, to})
	return nil
}

// Deliver brings what is the i-th under way. ErrRange. (What a house tells as an error is nothing.)
func (w *World) Deliver(i int) error {
	if !w.underWay(i) {
		return api.ErrRange
	}
	p := w.net[i]
	// What comes is under way no more: there is room for what is sent by it.
	w.remove(i)
	w.comes(p)
	return nil
}

// Lose loses the i-th. ErrRange.
func (w *World) Lose(i int) error {
	if !w.underWay(i) {
		return api.ErrRange
	}
	w.remove(i)
	return nil
}

// Twice sends the i-th once more, behind all others. ErrRange.
func (w *World) Twice(i int) error {
	if !w.underWay(i) {
		return api.ErrRange
	}
	w.send(w.net[i])
	return nil
}

// Many is how many are under way.
func (w *World) Many() int { return len(w.net) }

// Lost is how many were lost for want of room.
func (w *World) Lost() int { return w.lost }

func (w *World) underWay(i int) bool { return i >= 0 && i < len(w.net) }

func (w *World) remove(i int) { w.net = slices.Delete(w.net, i, i+1) }

func (w *World) send(p parcel) {
	if len(w.net) >= api.MaxNet {
		w.lost++
		return
	}
	w.net = append(w.net, p)
}

// comes lets a house have what is for it. Of an error nobody is told: the batch stays in doubt, and is sent again.
func (w *World) comes(p parcel) {
	h := w.latest(p.to)
	if p.frame.Ack {
		h.Came(p.frame.From, p.frame.Number)
		return
	}
	number, err := h.Arrives(p.frame.From, p.frame.Number, p.frame.List)
	if err != nil {
		return
	}
	w.send(parcel{frame.Frame{From: p.to, Number: number, Ack: true}, p.frame.From})
}
