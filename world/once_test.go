package world_test

import (
	"cmp"
	"fmt"
	"maps"
	"slices"
	"testing"

	"waybill/api"
	"waybill/house"
	"waybill/world"
)

// watched is a world, and what promise 6.3 says of it: what units that are over put and took, whatever became of it.
type watched struct {
	t     *testing.T
	w     *world.World
	n     int
	what  string // of the run
	units [api.MaxHouses][api.MaxUnits]did
	lies  map[int]api.Message // what is put and not taken, by its number
	order map[int]int         // of messages: as the how many-th they were put
	last  map[line]int        // the latest one of those that came
	came  map[int]struct{}    // the messages that were seen in queues
}

// did is what a unit did that is not over.
type did struct {
	put  []api.Message
	took []int
}

// line is of messages that keep their order.
type line struct {
	from, priority, house int
	queue                 string
}

func watch(t *testing.T, n int, what string) *watched {
	t.Helper()
	w, err := world.New(n)
	if err != nil {
		t.Fatal(err)
	}
	namesOf(w, n)
	return &watched{t: t, w: w, n: n, what: what, lies: map[int]api.Message{}, order: map[int]int{}, last: map[line]int{}, came: map[int]struct{}{}}
}

func (r *watched) house(k int) *house.House {
	h, err := r.w.House(k)
	if err != nil {
		r.t.Fatalf("%s: House(%d): %v", r.what, k, err)
	}
	return h
}

// put puts for the queue in, or out, of a house.
func (r *watched) put(k, u, to int, queue string, priority int) {
	name := map[string]string{"in": "to", "out": "out"}[queue] + fmt.Sprint(to)
	if id, err := r.house(k).Put(u, name, priority, "x"); err == nil {
		m := api.Message{Id: id, Priority: priority, Body: "x", Queue: queue, House: to}
		r.units[k][u].put = append(r.units[k][u].put, m)
	}
}

func (r *watched) get(k, u int, queue string) {
	if m, err := r.house(k).Get(u, queue); err == nil {
		r.units[k][u].took = append(r.units[k][u].took, m.Id)
	}
}

func (r *watched) commit(k, u int) {
	if r.house(k).Commit(u) != nil {
		return
	}
	for _, m := range r.units[k][u].put {
		r.lies[m.Id] = m
		r.order[m.Id] = len(r.order)
	}
	for _, id := range r.units[k][u].took {
		delete(r.lies, id)
	}
	r.units[k][u] = did{}
}

func (r *watched) backout(k, u int) {
	if r.house(k).Backout(u) == nil {
		r.units[k][u] = did{}
	}
}

func (r *watched) restart(k int) {
	ok(r.t, "Restart", r.w.Restart(k))
	r.units[k] = [api.MaxUnits]did{}
}

func (r *watched) calm(rounds int) {
	for k := range r.n {
		if rounds > 0 && r.house(k).Down() {
			r.units[k] = [api.MaxUnits]did{}
		}
	}
	r.w.Calm(rounds)
}

// check: the Ledger has each message once, and those in queues came as they were put.
func (r *watched) check(step any) {
	r.t.Helper()
	want := slices.SortedFunc(maps.Values(r.lies), func(x, y api.Message) int { return cmp.Compare(x.Id, y.Id) })
	if got := r.w.Ledger(); !slices.Equal(got, want) {
		r.t.Fatalf("%s, step %v: Ledger\n%v\nwant\n%v", r.what, step, got, want)
	}
	for k := range r.n {
		for _, queue := range []string{"in", "out"} {
			l, _ := r.house(k).There(queue)
			for _, m := range l {
				r.comes(step, m, line{m.Id % api.MaxHouses, m.Priority, k, queue})
			}
		}
	}
}

// comes: one that is seen in a queue for the first time was put behind all of its line that were seen there.
func (r *watched) comes(step any, m api.Message, x line) {
	r.t.Helper()
	if _, seen := r.came[m.Id]; seen {
		return
	}
	if last, any := r.last[x]; any && r.order[m.Id] < last {
		r.t.Fatalf("%s, step %v: %v comes behind one that was put later", r.what, step, m)
	}
	r.came[m.Id] = struct{}{}
	r.last[x] = r.order[m.Id]
}

// checkCalm: behind rounds enough nothing waits for a house of the world: all is where it was to go, or in Dead's queue.
func (r *watched) checkCalm() {
	r.t.Helper()
	r.calm(30)
	r.check("calm")
	for k := range r.n {
		for to := range r.n {
			if l, _ := r.house(k).Waits(to); len(l) > 0 {
				r.t.Fatalf("%s: behind rounds enough %v wait in house %d for %d", r.what, l, k, to)
			}
		}
	}
	for _, m := range r.lies {
		k := m.House
		if k >= r.n {
			k = m.Id % api.MaxHouses
			if l, _ := r.house(k).Waits(m.House); slices.Contains(l, m) {
				continue
			}
		} else if slices.Contains(r.house(k).Kept(), m) {
			continue
		}
		r.t.Fatalf("%s: behind rounds enough %v is not in house %d", r.what, m, k)
	}
}

// draw lets one step be drawn.
func (r *watched) draw(d *die) string {
	k, to, u := d.n(r.n), d.n(r.n), d.n(api.MaxUnits)
	queue := []string{"in", "in", "out"}[d.n(3)]
	i := d.n(r.w.Many() + 1)
	what := d.n(60)
	switch {
	case what < 16:
		r.put(k, u, d.n(r.n+1)%api.MaxHouses, queue, d.n(2))
	case what < 24:
		r.commit(k, u)
	case what < 28:
		r.get(k, u, []string{queue, queue, api.Dead}[d.n(3)])
	case what < 29:
		r.backout(k, u)
	case what < 38:
		r.w.Send(k, to)
	case what < 50:
		r.w.Deliver(i)
	case what < 52:
		r.w.Lose(i)
	case what < 54:
		r.w.Twice(i)
	case what < 55:
		r.w.Cut(k, d.n(4)-1, d.n(130)-1)
	case what < 56:
		r.restart(k)
	case what < 59:
		if r.house(k).Down() {
			r.restart(k)
		}
	default:
		r.calm(d.n(2))
	}
	return fmt.Sprint(what, " ", k)
}

// Promise 6.3: each message is once, in order, and comes, in long runs in which things are lost, late, come twice, and the power fails.
func TestOnce(t *testing.T) {
	came := 0
	for seed := range 150 {
		d, n := die(seed), 1+seed%api.MaxHouses
		r := watch(t, n, fmt.Sprint("run ", seed))
		for i := range 300 {
			what := r.draw(&d)
			r.check(fmt.Sprint(i, ": ", what))
		}
		for k := range n {
			if r.house(k).Used() > api.MaxLog-100 {
				t.Fatalf("run %d uses up a disk", seed)
			}
		}
		r.checkCalm()
		came += len(r.came)
	}
	if came < 3000 {
		t.Errorf("only %d messages came", came)
	}
}

// Promise 6.3: each message is once, when disks are used up, too.
func TestOnceUsedUp(t *testing.T) {
	used := 0
	for seed := range 40 {
		d, n := die(seed), 2+seed%3
		r := watch(t, n, fmt.Sprint("run ", seed))
		for k := range n {
			usesUp(t, r.w, k, d.n(25))
		}
		for i := range 150 {
			what := r.draw(&d)
			r.check(fmt.Sprint(i, ": ", what))
		}
		r.calm(20)
		r.check("calm")
		for k := range n {
			used += r.house(k).Used() / api.MaxLog
		}
	}
	if used < 20 {
		t.Errorf("only %d disks are used up", used)
	}
}

// script is a run of three houses, step by step, in which things are lost, late, and come twice.
func script() []func(r *watched) {
	put := func(k, u, to, priority int) func(r *watched) {
		return func(r *watched) { r.put(k, u, to, "in", priority) }
	}
	commit := func(k, u int) func(r *watched) { return func(r *watched) { r.commit(k, u) } }
	get := func(k, u int) func(r *watched) { return func(r *watched) { r.get(k, u, "in") } }
	send := func(k, to int) func(r *watched) { return func(r *watched) { r.w.Send(k, to) } }
	deliver := func(i int) func(r *watched) { return func(r *watched) { r.w.Deliver(i) } }
	lose := func(i int) func(r *watched) { return func(r *watched) { r.w.Lose(i) } }
	twice := func(i int) func(r *watched) { return func(r *watched) { r.w.Twice(i) } }
	return []func(r *watched){
		put(0, 0, 1, 1), put(0, 0, 1, 1), put(0, 1, 1, 2), put(0, 0, 0, 1), commit(0, 0), put(1, 0, 0, 1), put(1, 0, 2, 1), commit(1, 0),
		send(0, 1), twice(0), deliver(0), commit(0, 1), lose(1), send(1, 0), send(0, 1), deliver(1), deliver(0), deliver(1), deliver(0),
		send(1, 2), put(2, 3, 1, 1), commit(2, 3), get(0, 2), put(0, 2, 2, 5), commit(0, 2), deliver(0), send(0, 1), deliver(0), deliver(0), twice(0),
		get(1, 1), get(1, 1), put(1, 1, 0, 9), commit(1, 1), send(2, 1), send(0, 2), send(1, 0), lose(0), deliver(1), deliver(1), deliver(1),
		deliver(0), deliver(0), deliver(0), deliver(0), get(2, 0), commit(2, 0), send(0, 1), send(1, 0), send(1, 2), deliver(2), deliver(1),
	}
}

// scriptWrites is how much each house writes in the script.
func scriptWrites(t *testing.T) [3]int {
	r := watch(t, 3, "script")
	var out [3]int
	for k := range out {
		out[k] = -r.house(k).Used()
	}
	for i, step := range script() {
		step(r)
		r.check(i)
	}
	for k := range out {
		out[k] += r.house(k).Used()
	}
	return out
}

// play runs the script, with the power of a house cut; when it is Down it is opened anew behind so many steps (below 0: not ahead of calm).
func play(t *testing.T, k, cut, torn, behind int) {
	r := watch(t, 3, fmt.Sprintf("house %d, cut %d, torn %d, opened behind %d", k, cut, torn, behind))
	ok(t, "Cut", r.w.Cut(k, cut, torn))
	down := 0
	for i, step := range script() {
		step(r)
		r.check(i)
		if !r.house(k).Down() {
			continue
		}
		if down == behind {
			r.restart(k)
			r.check(fmt.Sprint(i, ", opened anew"))
		}
		down++
	}
	r.checkCalm()
}

// Promise 6.3: the power goes off at each write of a run, and each number of bytes of it is torn.
func TestPowerAtEachWrite(t *testing.T) {
	for k, writes := range scriptWrites(t) {
		if writes < 5 {
			t.Errorf("house %d: only %d writes in the script", k, writes)
		}
		for cut := range writes + 1 {
			for torn := -1; torn <= 110; torn++ {
				play(t, k, cut, torn, 0)
			}
			for _, behind := range []int{1, 2, 5, -1} {
				for _, torn := range []int{-1, 0, 1, 20, 110} {
					play(t, k, cut, torn, behind)
				}
			}
		}
	}
}

// Promise 6.3: of one priority messages come in the order in which units that are over put them, across batches, whatever is lost or comes twice; the more urgent ones of those that wait go first.
func TestOrder(t *testing.T) {
	for _, spoil := range []func(w *world.World){
		func(w *world.World) {},
		func(w *world.World) { w.Twice(0) },
		func(w *world.World) { w.Lose(0) },
		func(w *world.World) { w.Deliver(0); w.Lose(0) },
		func(w *world.World) { w.Twice(0); w.Deliver(0); w.Twice(1); w.Deliver(2) },
		func(w *world.World) { w.Deliver(0); w.Restart(0); w.Restart(1) },
	} {
		w := made(t, 2)
		h := at(t, w, 0)
		for i := range 8 {
			h.Put(i%2, "to1", []int{1, 1, 5}[i%3], "x")
		}
		ok(t, "Commit", h.Commit(1)) // 4 (of 1), 12 (of 1), 20 (of 5), 28 (of 1)
		ok(t, "Commit", h.Commit(0)) // 0 (of 1), 8 (of 5), 16 (of 1), 24 (of 1)
		for range 3 {
			w.Send(0, 1)
			spoil(w)
		}
		w.Calm(4)
		checkThere(t, w, 1, 20, 8, 4, 12, 28, 0, 16, 24)
		checkWaits(t, w, 0, 1)
	}
}

// Promise 6.3: what finds its queue full, or no such queue, is once, too: in Dead's.
func TestOnceInDead(t *testing.T) {
	w := made(t, 2)
	puts(t, w, 1, 1, api.MaxDepth-1)
	l := puts(t, w, 0, 1, 3)
	ok(t, "Name", at(t, w, 0).Name(api.Name{Name: "gone", To: "gone", House: 1}))
	id, err := at(t, w, 0).Put(0, "gone", 1, "x")
	ok(t, "Put", err)
	ok(t, "Commit", at(t, w, 0).Commit(0))
	w.Calm(3)
	checkWaits(t, w, 0, 1)
	dead, err := at(t, w, 1).There(api.Dead)
	ok(t, "There", err)
	checkIds(t, "Dead", dead, l[1], l[2], id)
	if n := len(w.Ledger()); n != api.MaxDepth+3 {
		t.Errorf("%d messages", n)
	}
}
