package house_test

import (
	"fmt"
	"testing"

	"waybill/api"
	"waybill/house"
)

// die: numbers that look drawn, the same each time.
type die uint64

func (d *die) n(most int) int {
	*d = *d*6364136223846793005 + 1442695040888963407
	return int(uint64(*d>>33) % uint64(most))
}

func (d *die) word() string {
	return []string{"in", "out", "a", "b", "c", "far", "in", "far", api.Dead, "none"}[d.n(10)]
}

// name is one, mostly right.
func (d *die) name() api.Name {
	x := api.Name{Name: d.word(), House: -1}
	switch d.n(4) {
	case 0:
		x.To = d.word()
	case 1:
		x.To, x.House = d.word(), d.n(api.MaxHouses+1)
	}
	if d.n(30) == 0 {
		x.Name = "A"
	}
	return x
}

// list is a batch for a house, mostly right.
func (d *die) list(id int) []api.Message {
	var l []api.Message
	for range d.n(5) {
		m := api.Message{Id: d.n(100), Priority: d.n(3), Body: "x", Queue: d.word(), House: id}
		if m.Id%api.MaxHouses == id && d.n(20) > 0 {
			m.Id++
		}
		if d.n(40) == 0 {
			m.House = d.n(api.MaxHouses)
		}
		if d.n(60) == 0 {
			m.Body = ""
		}
		l = append(l, m)
	}
	return l
}

// move is a call of a run that is drawn.
type move struct {
	what   string
	call   step
	writes bool
}

func (d *die) move(id int, o *model) move {
	u, s, p := d.n(api.MaxUnits+1)-d.n(20)/19, d.word(), d.n(4)-d.n(20)/19
	k := d.n(api.MaxHouses+1) - d.n(20)/19
	number := d.n(3) - 1
	if o.another(k) {
		number += o.made[k]
	}
	switch d.n(24) {
	case 0, 1, 2:
		return move{fmt.Sprint("Get ", u, s), func(h called) string { return fmt.Sprint(h.Get(u, s)) }, false}
	case 3:
		return move{fmt.Sprint("Backout ", u), func(h called) string { return fmt.Sprint(h.Backout(u)) }, false}
	case 4, 5, 6:
		return move{fmt.Sprint("Commit ", u), func(h called) string { return fmt.Sprint(h.Commit(u)) }, true}
	case 7, 8:
		return move{fmt.Sprint("Batch ", k), func(h called) string { return fmt.Sprint(h.Batch(k)) }, true}
	case 9:
		return move{fmt.Sprint("Came ", k, number), func(h called) string { return fmt.Sprint(h.Came(k, number)) }, true}
	case 10:
		x := d.name()
		return move{fmt.Sprint("Name ", x), func(h called) string { return fmt.Sprint(h.Name(x)) }, true}
	case 11:
		return move{fmt.Sprint("Unname ", s), func(h called) string { return fmt.Sprint(h.Unname(s)) }, true}
	case 12, 13:
		number, l := d.n(4)-1, d.list(id)
		if o.another(k) {
			number += o.arrived[k]
		}
		return move{fmt.Sprint("Arrives ", k, number, l), func(h called) string { return fmt.Sprint(h.Arrives(k, number, l)) }, true}
	}
	return move{fmt.Sprint("Put ", u, s, p), func(h called) string { return fmt.Sprint(h.Put(u, s, p, "x")) }, false}
}

// pair is a house and its model.
type pair struct {
	h *house.House
	o *model
}

// Promises 4.1 to 4.6: long runs, with cuts, openings, and several Houses open of one disk, are as the promises' words tell them.
func TestAgainstWords(t *testing.T) {
	for seed := range 120 {
		d, id := die(seed), seed%api.MaxHouses
		disk, p := new(house.Disk), &paper{cut: -1}
		newPair := func() pair {
			h, err := house.Open(id, disk)
			if err != nil {
				t.Fatal(err)
			}
			return pair{h, openModel(id, p)}
		}
		open := []pair{newPair()}
		for i, s := range []string{"in", "out", "far"} {
			x := api.Name{Name: s, House: -1}
			if i == 2 {
				x.To, x.House = "in", (id+1)%api.MaxHouses
			}
			open[0].h.Name(x)
			open[0].o.Name(x)
		}
		for i := range []int{150, 600}[seed%2] {
			switch d.n(40) {
			case 0:
				n := d.n(5) - 1
				disk.Cut(n)
				p.cut = n
				open[d.n(len(open))].h.Torn(d.n(100) - 1)
			case 1:
				open = append(open, newPair())
			}
			if len(open) > 3 {
				open = open[1:]
			}
			one := open[d.n(len(open))]
			if one.o.down && d.n(3) == 0 {
				disk.Cut(-1)
				p.cut = -1
				open = append(open, newPair())
				one = open[len(open)-1]
			}
			m := d.move(id, one.o)
			if m.writes && !one.o.mayWrite() {
				continue
			}
			got, want := m.call(one.h), m.call(one.o)
			if got != want {
				t.Fatalf("run %d, call %d, %s: %s, want %s", seed, i, m.what, got, want)
			}
			if got, want := told(one.h), told(one.o); got != want {
				t.Fatalf("run %d, call %d, %s:\n%s\nwant\n%s", seed, i, m.what, got, want)
			}
		}
		last := newPair()
		if got, want := told(last.h), told(last.o); got != want {
			t.Fatalf("run %d, opened anew:\n%s\nwant\n%s", seed, got, want)
		}
	}
}
