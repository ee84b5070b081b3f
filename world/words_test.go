package world_test

import (
	"cmp"
	"fmt"
	"slices"
	"strings"

	"waybill/api"
	"waybill/frame"
	"waybill/house"
	"waybill/world"
)

// Promises 6.1 and 6.2 in their plainest form: what is under way are texts, and Calm does each of its rounds.

// text is a frame's, for a house.
type text struct {
	s  string
	to int
}

type model struct {
	disks  []*house.Disk
	houses []*house.House
	net    []text
	lost   int
}

func newModel(n int) (*model, error) {
	if n < 1 || n > api.MaxHouses {
		return nil, api.ErrRange
	}
	o := &model{disks: make([]*house.Disk, n), houses: make([]*house.House, n)}
	for k := range n {
		o.disks[k] = new(house.Disk)
		o.opens(k)
	}
	return o, nil
}

func (o *model) opens(k int) { o.houses[k], _ = house.Open(k, o.disks[k]) }

func (o *model) has(k int) bool { return k >= 0 && k < len(o.houses) }

func (o *model) House(k int) (*house.House, error) {
	if !o.has(k) {
		return nil, api.ErrRange
	}
	return o.houses[k], nil
}

func (o *model) Cut(k, writes, torn int) error {
	if !o.has(k) {
		return api.ErrRange
	}
	o.disks[k].Cut(writes)
	o.houses[k].Torn(torn)
	return nil
}

func (o *model) Restart(k int) error {
	if !o.has(k) {
		return api.ErrRange
	}
	o.disks[k].Cut(-1)
	o.opens(k)
	return nil
}

func (o *model) sends(f frame.Frame, to int) {
	s, err := frame.Write(f)
	if err != nil {
		panic(fmt.Sprint("what is sent is no frame: ", f))
	}
	o.sendsText(text{s, to})
}

func (o *model) sendsText(x text) {
	if len(o.net) == api.MaxNet {
		o.lost++
	} else {
		o.net = append(slices.Clone(o.net), x)
	}
}

func (o *model) Send(k, to int) error {
	if !o.has(k) || !o.has(to) {
		return api.ErrRange
	}
	n, l, err := o.houses[k].Batch(to)
	if err == nil {
		o.sends(frame.Frame{From: k, Number: n, List: l}, to)
	}
	return err
}

func (o *model) Deliver(i int) error {
	if i < 0 || i >= len(o.net) {
		return api.ErrRange
	}
	x := o.net[i]
	o.Lose(i)
	f, err := frame.Read(x.s)
	if err != nil {
		panic("what comes is no frame: " + x.s)
	}
	if f.Ack {
		o.houses[x.to].Came(f.From, f.Number)
	} else if n, err := o.houses[x.to].Arrives(f.From, f.Number, f.List); err == nil {
		o.sends(frame.Frame{From: x.to, Number: n, Ack: true}, f.From)
	}
	return nil
}

func (o *model) Lose(i int) error {
	if i < 0 || i >= len(o.net) {
		return api.ErrRange
	}
	o.net = append(slices.Clone(o.net[:i]), o.net[i+1:]...)
	return nil
}

func (o *model) Twice(i int) error {
	if i < 0 || i >= len(o.net) {
		return api.ErrRange
	}
	o.sendsText(o.net[i])
	return nil
}

func (o *model) Many() int { return len(o.net) }

func (o *model) Lost() int { return o.lost }

func (o *model) Calm(rounds int) {
	all := func() {
		for len(o.net) > 0 {
			o.Deliver(0)
		}
	}
	for range rounds {
		for k, h := range o.houses {
			o.disks[k].Cut(-1)
			if h.Down() {
				o.opens(k)
			}
		}
		all()
		for k := range o.houses {
			for to := range o.houses {
				o.Send(k, to)
				all()
			}
		}
	}
}

func (o *model) Ledger() []api.Message {
	var l []api.Message
	for k, h := range o.houses {
		l = append(l, h.Kept()...)
		for to := range api.MaxHouses {
			waits, _ := h.Waits(to)
			number, doubt, _ := h.Doubt(to)
			arrived := -1
			if o.has(to) && to != k {
				arrived, _ = o.houses[to].Arrived(k)
			}
			for _, m := range waits {
				if !slices.Contains(doubt, m.Id) || number > arrived {
					l = append(l, m)
				}
			}
		}
	}
	slices.SortFunc(l, func(x, y api.Message) int { return cmp.Compare(x.Id, y.Id) })
	return l
}

// called is what a world, and the model of one, can do.
type called interface {
	House(k int) (*house.House, error)
	Cut(k, writes, torn int) error
	Restart(k int) error
	Send(k, to int) error
	Deliver(i int) error
	Lose(i int) error
	Twice(i int) error
	Many() int
	Lost() int
	Calm(rounds int)
	Ledger() []api.Message
}

var (
	_ called = (*world.World)(nil)
	_ called = (*model)(nil)
)

// told is all that a world of so many houses tells.
func told(w called, n int) string {
	var s strings.Builder
	fmt.Fprintln(&s, "many", w.Many(), "lost", w.Lost(), "ledger", w.Ledger())
	for k := range n {
		h, err := w.House(k)
		if err != nil {
			return "no house " + fmt.Sprint(k)
		}
		fmt.Fprintln(&s, "house", k, "used", h.Used(), "down", h.Down(), "names", h.Names(), "kept", h.Kept())
		for _, name := range []string{"in", "out", api.Dead, "none"} {
			l, err := h.There(name)
			fmt.Fprintln(&s, name, "there", l, api.Tell(err))
		}
		for to := range api.MaxHouses {
			l, e := h.Waits(to)
			number, doubt, f := h.Doubt(to)
			arrived, g := h.Arrived(to)
			fmt.Fprintln(&s, "of", to, "waits", l, api.Tell(e), "doubt", number, doubt, api.Tell(f), "arrived", arrived, api.Tell(g))
		}
	}
	return s.String()
}
