package desk_test

import (
	"fmt"
	"strings"
	"testing"

	"waybill/api"
	"waybill/desk"
	"waybill/house"
	"waybill/msg"
	"waybill/world"
)

// die: numbers that look drawn, the same each time.
type die uint64

func (d *die) n(most int) int {
	*d = *d*6364136223846793005 + 1442695040888963407
	return int(uint64(*d>>33) % uint64(most))
}

func (d *die) word(l ...string) string { return l[d.n(len(l))] }

// run asks a world by its methods what a session is asked by lines.
type run struct {
	d     die
	world *world.World
}

func answered(err error, text ...any) string {
	if err != nil {
		return fmt.Sprint("error ", int(api.Tell(err)))
	}
	return strings.TrimSuffix(fmt.Sprintln(text...), "\n")
}

func listed(l []api.Message) string {
	text, err := msg.Write(l)
	if err != nil {
		panic(err)
	}
	return text
}

// onNames is a line about names of a house, and what it is to be answered.
func (r *run) onNames(k int, h *house.House) (string, string) {
	x := api.Name{Name: r.d.word("in", "in", "b", "far", "c", "dead"), To: r.d.word("", "", "in", "b", "far"), House: r.d.n(6) - 1}
	if x.To == "" && r.d.n(4) > 0 {
		x.House = -1
	}
	switch r.d.n(4) {
	case 0:
		return fmt.Sprint("unname ", k, " ", x.Name), answered(h.Unname(x.Name), "unname")
	case 1:
		var l []string
		for _, x := range h.Names() {
			text := x.Name
			if x.To != "" {
				text += "=" + x.To
			}
			if x.House >= 0 {
				text += fmt.Sprint("@", x.House)
			}
			l = append(l, text)
		}
		return fmt.Sprint("names ", k), answered(nil, "names", strings.Join(l, " "))
	}
	to := x.To
	if to == "" {
		to = "-"
	}
	return fmt.Sprint("name ", k, " ", x.Name, " ", to, " ", x.House), answered(h.Name(x), "name")
}

// onUnits is a line about units of a house.
func (r *run) onUnits(k int, h *house.House) (string, string) {
	u, name := r.d.n(3), r.d.word("in", "in", "far", "b", "c")
	if r.d.n(20) == 0 {
		u = r.d.n(9) - 2
	}
	switch r.d.n(6) {
	case 0, 1:
		p, body := r.d.n(3)*4, r.d.word("a", "b", "hello", "007")
		id, err := h.Put(u, name, p, body)
		return fmt.Sprint("put ", k, " ", u, " ", name, " ", p, " ", body), answered(err, id)
	case 2:
		m, err := h.Get(u, name)
		return fmt.Sprint("get ", k, " ", u, " ", name), answered(err, "got", m.Id, m.Priority, m.Body, m.Queue, m.House)
	case 3:
		return fmt.Sprint("back ", k, " ", u), answered(h.Backout(u), "back")
	}
	return fmt.Sprint("commit ", k, " ", u), answered(h.Commit(u), "commit")
}

// asks is a line that changes nothing.
func (r *run) asks(k int, h *house.House) (string, string) {
	switch r.d.n(6) {
	case 0:
		name := r.d.word("in", "b", "far", "dead")
		l, err := h.There(name)
		return fmt.Sprint("there ", k, " ", name), answered(err, "there", listed(l))
	case 1:
		to := r.d.n(6) - 1
		l, err := h.Waits(to)
		return fmt.Sprint("waits ", k, " ", to), answered(err, "waits", listed(l))
	case 2:
		return fmt.Sprint("kept ", k), answered(nil, "kept", listed(h.Kept()))
	case 3:
		return "many", answered(nil, r.world.Many(), r.world.Lost())
	case 4:
		return "", "ok"
	}
	return "ledger", answered(nil, "ledger", listed(r.world.Ledger()))
}

// onWorld is a line about what is under way, and about power.
func (r *run) onWorld(k int) (string, string) {
	i := r.d.n(4) - 1
	switch r.d.n(12) {
	case 0, 1, 2:
		to := r.d.n(5) - 1
		return fmt.Sprint("send ", k, " ", to), answered(r.world.Send(k, to), "send")
	case 3, 4, 5:
		return fmt.Sprint("deliver ", i), answered(r.world.Deliver(i), "deliver")
	case 6:
		return fmt.Sprint("lose ", i), answered(r.world.Lose(i), "lose")
	case 7:
		return fmt.Sprint("twice ", i), answered(r.world.Twice(i), "twice")
	case 8:
		writes, torn := r.d.n(6)-1, r.d.n(60)-5
		return fmt.Sprint("cut ", k, " ", writes, " ", torn), answered(r.world.Cut(k, writes, torn), "cut")
	case 9, 10:
		return fmt.Sprint("restart ", k), answered(r.world.Restart(k), "restart")
	}
	rounds := r.d.n(3)
	r.world.Calm(rounds)
	return fmt.Sprint("calm ", rounds), "calm"
}

func (r *run) step() (string, string) {
	if r.d.n(150) == 0 {
		n := r.d.n(6)
		w, err := world.New(n)
		if err == nil {
			r.world = w
		}
		return fmt.Sprint("world ", n), answered(err, "world")
	}
	k := r.d.n(3)
	h, err := r.world.House(k)
	if err != nil {
		return fmt.Sprint("kept ", k), "error 2"
	}
	switch r.d.n(8) {
	case 0:
		return r.onNames(k, h)
	case 1, 2, 3:
		return r.onUnits(k, h)
	case 4, 5:
		return r.asks(k, h)
	}
	return r.onWorld(k)
}

// Promise 7.1: a session is a world that is asked by its methods.
func TestSessionsAreWorlds(t *testing.T) {
	well := map[string]bool{} // by the lines' first words: one was answered without an error
	for seed := range 60 {
		w, err := world.New(2)
		if err != nil {
			t.Fatal(err)
		}
		r := run{die(seed), w}
		var l []told
		for k := range 2 {
			h, _ := w.House(k)
			x := api.Name{Name: "in", House: -1}
			l = append(l, told{fmt.Sprint("name ", k, " in - -1"), answered(h.Name(x), "name")})
		}
		for range 800 {
			line, answer := r.step()
			l = append(l, told{line, answer})
			if !strings.HasPrefix(answer, "error") {
				well[first(line)] = true
			}
		}
		checkSession(t, nil, l...)
	}
	for _, x := range table() {
		if word := first(x.line); word != "help" && !well[word] {
			t.Errorf("%s was never answered without an error", word)
		}
	}
}

func first(s string) string { return strings.SplitN(s, " ", 2)[0] }

// P1, P5: whatever the bytes are, each line is answered by one line.
func TestBytesOfAllSorts(t *testing.T) {
	d := die(9)
	parts := []string{"put", "get", "name", "world", "calm", "cut", "send", "names", "0", "1", "-1", "4", "in", "-", " ", " ", " ", "\n", "\n", "\x00", "\xff", "é", "\t", "9223372036854775807", "+", "=", "@"}
	for range 3000 {
		var text strings.Builder
		for range d.n(60) {
			text.WriteString(parts[d.n(len(parts))])
			if d.n(2) > 0 {
				text.WriteByte(' ')
			}
		}
		s := text.String()
		want := strings.Count(strings.TrimSuffix(s, "\n"), "\n") + 1
		if got := desk.Session(s); strings.Count(got, "\n") != want || !strings.HasSuffix(got, "\n") {
			t.Fatalf("Session(%q) = %q: %d lines are wanted", s, got, want)
		}
		if desk.Session(s) != desk.Session(s) {
			t.Fatalf("Session(%q) tells this and that", s)
		}
	}
}
