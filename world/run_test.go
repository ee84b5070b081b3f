package world_test

import (
	"fmt"
	"testing"

	"waybill/api"
	"waybill/house"
	"waybill/world"
)

// die: numbers that look drawn, the same each time.
type die uint64

func (d *die) n(most int) int {
	*d = *d*6364136223846793005 + 1442695040888963407
	return int(uint64(*d>>33) % uint64(most))
}

// move is a call of a run that is drawn: what it tells.
type move struct {
	what string
	call func(w called) string
}

// ofHouse is a move of a house, if there is such a one.
func ofHouse(k int, what string, call func(h *house.House) string) move {
	return move{fmt.Sprint("house ", k, ": ", what), func(w called) string {
		h, err := w.House(k)
		if err != nil {
			return fmt.Sprint(err)
		}
		return call(h)
	}}
}

// move is drawn for a world of n houses, of which many are under way.
func (d *die) move(n, many int) move {
	k, u := d.n(n+1)-d.n(30)/29, d.n(api.MaxUnits)
	switch d.n(13) {
	case 0, 1, 2:
		to, p := fmt.Sprint([]string{"to", "out"}[d.n(2)], d.n(api.MaxHouses)), d.n(3)
		return ofHouse(k, fmt.Sprint("Put ", u, " ", to, " ", p), func(h *house.House) string { return fmt.Sprint(h.Put(u, to, p, "x")) })
	case 3, 4:
		return ofHouse(k, fmt.Sprint("Commit ", u), func(h *house.House) string { return fmt.Sprint(h.Commit(u)) })
	case 5:
		s := []string{"in", "out", "in", api.Dead}[d.n(4)]
		return ofHouse(k, fmt.Sprint("Get ", u, " ", s), func(h *house.House) string { return fmt.Sprint(h.Get(u, s)) })
	case 6:
		switch d.n(4) {
		case 0:
			return ofHouse(k, fmt.Sprint("Backout ", u), func(h *house.House) string { return fmt.Sprint(h.Backout(u)) })
		case 1:
			return ofHouse(k, "Name out", func(h *house.House) string { return fmt.Sprint(h.Name(local("out"))) })
		case 2:
			return ofHouse(k, "Unname out", func(h *house.House) string { return fmt.Sprint(h.Unname("out")) })
		}
	}
	return d.worldMove(n, many, k)
}

func (d *die) worldMove(n, many, k int) move {
	i := d.n(many+2) - 1
	switch d.n(40) {
	case 0:
		writes, torn := d.n(5)-1, d.n(120)-1
		return move{fmt.Sprint("Cut ", k, " ", writes, " ", torn), func(w called) string { return fmt.Sprint(w.Cut(k, writes, torn)) }}
	case 1, 2:
		return move{fmt.Sprint("Restart ", k), func(w called) string { return fmt.Sprint(w.Restart(k)) }}
	case 3:
		rounds := d.n(4) - 1
		return move{fmt.Sprint("Calm ", rounds), func(w called) string { w.Calm(rounds); return "" }}
	case 4, 5, 6:
		return move{fmt.Sprint("Lose ", i), func(w called) string { return fmt.Sprint(w.Lose(i)) }}
	case 7, 8, 9, 10:
		return move{fmt.Sprint("Twice ", i), func(w called) string { return fmt.Sprint(w.Twice(i)) }}
	}
	if d.n(2) == 0 {
		return move{fmt.Sprint("Deliver ", i), func(w called) string { return fmt.Sprint(w.Deliver(i)) }}
	}
	to := d.n(n + 1)
	return move{fmt.Sprint("Send ", k, " ", to), func(w called) string { return fmt.Sprint(w.Send(k, to)) }}
}

// namesOf lets each house have the queues in and out, and names for those of all houses.
func namesOf(w called, n int) {
	for k := range n {
		h, _ := w.House(k)
		h.Name(local("in"))
		h.Name(local("out"))
		for to := range api.MaxHouses {
			h.Name(api.Name{Name: fmt.Sprint("to", to), To: "in", House: to})
			h.Name(api.Name{Name: fmt.Sprint("out", to), To: "out", House: to})
		}
	}
}

// Promises 6.1 and 6.2: long runs are as the promises' words tell them.
func TestAgainstWords(t *testing.T) {
	for seed := range 100 {
		d, n := die(seed), 1+seed%api.MaxHouses
		w, err := world.New(n)
		o, wrong := newModel(n)
		if err != nil || wrong != nil {
			t.Fatal(err, wrong)
		}
		namesOf(w, n)
		namesOf(o, n)
		for i := range 250 {
			m := d.move(n, o.Many())
			got, want := m.call(w), m.call(o)
			if got != want {
				t.Fatalf("run %d, call %d, %s: %s, want %s", seed, i, m.what, got, want)
			}
			if got, want := told(w, n), told(o, n); got != want {
				t.Fatalf("run %d, call %d, %s:\n%s\nwant\n%s", seed, i, m.what, got, want)
			}
		}
	}
}

// Promises 6.1 and 6.2: so are runs that come to MaxNet, and that use up disks.
func TestAgainstWordsAtBounds(t *testing.T) {
	lost, used := 0, 0
	for seed := range 20 {
		d, n := die(seed), 2+seed%3
		w, err := world.New(n)
		o, wrong := newModel(n)
		if err != nil || wrong != nil {
			t.Fatal(err, wrong)
		}
		for _, x := range []called{w, o} {
			namesOf(x, n)
			for k := range n {
				usesUp(t, x, k, 10*seed%40)
			}
		}
		for i := range 400 {
			m := d.move(n, o.Many())
			if d.n(2) == 0 {
				m = move{"Twice 0", func(w called) string { return fmt.Sprint(w.Twice(0)) }}
			}
			got, want := m.call(w), m.call(o)
			if got != want || i%10 == 0 && told(w, n) != told(o, n) {
				t.Fatalf("run %d, call %d, %s: %s, want %s\n%s\nwant\n%s", seed, i, m.what, got, want, told(w, n), told(o, n))
			}
		}
		w.Calm(50)
		o.Calm(50)
		if got, want := told(w, n), told(o, n); got != want {
			t.Fatalf("run %d, behind rounds:\n%s\nwant\n%s", seed, got, want)
		}
		lost += o.Lost()
		for _, h := range o.houses {
			used += h.Used() / api.MaxLog
		}
	}
	if lost < 20 || used < 20 {
		t.Errorf("%d were lost, and %d disks used up: the runs come to no bounds", lost, used)
	}
}
