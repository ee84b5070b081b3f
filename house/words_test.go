package house_test

import (
	"cmp"
	"fmt"
	"maps"
	"slices"
	"strings"

	"waybill/api"
	"waybill/house"
	"waybill/msg"
	"waybill/names"
)

// Promises 4.1 to 4.6 in their plainest form: all messages lie in one heap, a disk keeps of each write how the house stood, and nothing is read back.

// paper is the model of a disk.
type paper struct {
	written []state
	cut     int // so many writes more; below 0: the power stays on
}

// lying is a message, and where it lies: in the queue of a name, or, if far, waiting for its house.
type lying struct {
	m         api.Message
	queue     string
	far       bool
	came      int // as the how many-th
	put, took int // by which unit; below 0: by none
}

// state is what is written of a house.
type state struct {
	names         map[string]api.Name
	heap          []lying
	comings       int
	greatest      int // count of those that units that are over put; below 0: none
	made, arrived [api.MaxHouses]int
	doubt         [api.MaxHouses][]int
}

type model struct {
	state
	id    int
	disk  *paper
	has   int // so many writes
	down  bool
	count int
	did   [api.MaxUnits]bool
}

// kept is a state without what units did that are not over.
func (s state) kept() state {
	s.names = maps.Clone(s.names)
	s.heap = slices.DeleteFunc(slices.Clone(s.heap), func(x lying) bool { return x.put >= 0 })
	for i := range s.heap {
		s.heap[i].took = -1
	}
	for i := range s.doubt {
		s.doubt[i] = slices.Clone(s.doubt[i])
	}
	return s
}

func openModel(id int, p *paper) *model {
	o := &model{id: id, disk: p, has: len(p.written)}
	o.names, o.greatest = map[string]api.Name{}, -1
	if o.has > 0 {
		o.state = p.written[o.has-1].kept()
	}
	o.count = o.greatest + 1
	return o
}

// mayWrite: does it have all that is written?
func (o *model) mayWrite() bool { return o.has == len(o.disk.written) }

// write does what is to be done, if it can be written.
func (o *model) write(do func()) error {
	if o.down {
		return api.ErrState
	}
	if o.has == api.MaxLog {
		return api.ErrLimit
	}
	if o.disk.cut == 0 {
		o.down = true
		return api.ErrDevice
	}
	if o.disk.cut > 0 {
		o.disk.cut--
	}
	do()
	o.disk.written = append(o.disk.written, o.state.kept())
	o.has++
	return nil
}

func (o *model) isLocal(name string) bool {
	x, ok := o.names[name]
	return ok && x.To == "" && x.House == -1
}

// those are the messages that are wanted, in order.
func (o *model) those(wanted func(lying) bool) []lying {
	var l []lying
	for _, x := range o.heap {
		if wanted(x) {
			l = append(l, x)
		}
	}
	slices.SortFunc(l, func(x, y lying) int {
		return cmp.Or(cmp.Compare(y.m.Priority, x.m.Priority), cmp.Compare(x.came, y.came))
	})
	return l
}

func messages(l []lying) []api.Message {
	var out []api.Message
	for _, x := range l {
		out = append(out, x.m)
	}
	return out
}

func inQueue(x lying, name string) bool { return !x.far && x.queue == name }

func waiting(x lying, to int) bool { return x.far && x.m.House == to }

func there(x lying) bool { return x.put < 0 && x.took < 0 }

func (o *model) comes(x lying) {
	x.came = o.comings
	o.comings++
	o.heap = append(o.heap, x)
}

func (o *model) leaves(gone func(lying) bool) { o.heap = slices.DeleteFunc(o.heap, gone) }

func (o *model) Name(x api.Name) error {
	if !names.Right(x) {
		return api.ErrArg
	}
	if _, ok := o.names[x.Name]; !ok && len(o.names) == api.MaxNames {
		return api.ErrFull
	}
	if x.Name == api.Dead {
		return api.ErrName
	}
	return o.write(func() { o.names[x.Name] = x })
}

func (o *model) Unname(s string) error {
	if _, ok := o.names[s]; !ok {
		return api.ErrMissing
	}
	return o.write(func() { delete(o.names, s) })
}

func (o *model) Names() []api.Name {
	var l []api.Name
	for _, s := range slices.Sorted(maps.Keys(o.names)) {
		l = append(l, o.names[s])
	}
	return l
}

func (o *model) resolve(s string) (string, int, error) {
	seen := map[string]bool{}
	for {
		x, ok := o.names[s]
		switch {
		case !ok:
			return "", 0, api.ErrMissing
		case seen[s]:
			return "", 0, api.ErrCycle
		case x.To == "":
			return s, -1, nil
		case x.House >= 0:
			return x.To, x.House, nil
		}
		seen[s] = true
		s = x.To
	}
}

func (o *model) Put(u int, name string, priority int, body string) (int, error) {
	if u < 0 || u >= api.MaxUnits {
		return 0, api.ErrRange
	}
	if priority < 0 || priority > api.MaxPriority || !msg.Body(body) {
		return 0, api.ErrArg
	}
	to, at, err := o.resolve(name)
	if err != nil {
		return 0, err
	}
	far := at >= 0 && at != o.id
	if !far && !o.isLocal(to) {
		return 0, api.ErrMissing
	}
	if o.down {
		return 0, api.ErrState
	}
	m := api.Message{Id: api.MaxHouses*o.count + o.id, Priority: priority, Body: body, Queue: to, House: o.id}
	line := func(x lying) bool { return inQueue(x, to) }
	if far {
		m.House = at
		line = func(x lying) bool { return waiting(x, at) }
	}
	if len(o.those(line)) >= api.MaxDepth {
		return 0, api.ErrFull
	}
	o.count++
	o.did[u] = true
	o.comes(lying{m: m, queue: to, far: far, put: u, took: -1})
	return m.Id, nil
}

func (o *model) Get(u int, name string) (api.Message, error) {
	if u < 0 || u >= api.MaxUnits {
		return api.Message{}, api.ErrRange
	}
	if !o.isLocal(name) && name != api.Dead {
		return api.Message{}, api.ErrMissing
	}
	if o.down {
		return api.Message{}, api.ErrState
	}
	l := o.those(func(x lying) bool { return inQueue(x, name) && there(x) })
	if len(l) == 0 {
		return api.Message{}, api.ErrNone
	}
	for i := range o.heap {
		if o.heap[i].came == l[0].came {
			o.heap[i].took = u
		}
	}
	o.did[u] = true
	return l[0].m, nil
}

func (o *model) Commit(u int) error {
	if u < 0 || u >= api.MaxUnits {
		return api.ErrRange
	}
	if !o.did[u] {
		return api.ErrNone
	}
	return o.write(func() {
		var put []lying
		for _, x := range o.heap { // it is in the order in which they came
			if x.put == u {
				put = append(put, x)
			}
		}
		o.leaves(func(x lying) bool { return x.put == u || x.took == u })
		for _, x := range put {
			x.put = -1
			o.comes(x)
			o.greatest = max(o.greatest, x.m.Id/api.MaxHouses)
		}
		o.did[u] = false
	})
}

func (o *model) Backout(u int) error {
	if u < 0 || u >= api.MaxUnits {
		return api.ErrRange
	}
	if !o.did[u] {
		return api.ErrNone
	}
	if o.down {
		return api.ErrState
	}
	o.leaves(func(x lying) bool { return x.put == u })
	for i := range o.heap {
		if o.heap[i].took == u {
			o.heap[i].took = -1
		}
	}
	o.did[u] = false
	return nil
}

func (o *model) There(name string) ([]api.Message, error) {
	if !o.isLocal(name) && name != api.Dead {
		return nil, api.ErrMissing
	}
	return messages(o.those(func(x lying) bool { return inQueue(x, name) && there(x) })), nil
}

func (o *model) Kept() []api.Message {
	l := o.those(func(x lying) bool { return !x.far && x.put < 0 })
	slices.SortStableFunc(l, func(x, y lying) int { return cmp.Compare(x.queue, y.queue) })
	return messages(l)
}

func (o *model) another(k int) bool { return k >= 0 && k < api.MaxHouses && k != o.id }

func (o *model) Waits(to int) ([]api.Message, error) {
	if !o.another(to) {
		return nil, api.ErrRange
	}
	return messages(o.those(func(x lying) bool { return waiting(x, to) && x.put < 0 })), nil
}

func (o *model) Batch(to int) (int, []api.Message, error) {
	if !o.another(to) {
		return 0, nil, api.ErrRange
	}
	if o.down {
		return 0, nil, api.ErrState
	}
	if len(o.doubt[to]) == 0 {
		l := o.those(func(x lying) bool { return waiting(x, to) && there(x) })
		if len(l) == 0 {
			return 0, nil, api.ErrNone
		}
		err := o.write(func() {
			o.made[to]++
			for _, x := range l[:min(len(l), api.MaxBatch)] {
				o.doubt[to] = append(o.doubt[to], x.m.Id)
			}
		})
		if err != nil {
			return 0, nil, err
		}
	}
	l := o.those(func(x lying) bool { return x.far && slices.Contains(o.doubt[to], x.m.Id) })
	return o.made[to], messages(l), nil
}

func (o *model) Came(to, number int) error {
	if !o.another(to) {
		return api.ErrRange
	}
	if o.down {
		return api.ErrState
	}
	if len(o.doubt[to]) == 0 || number != o.made[to] {
		return api.ErrNone
	}
	return o.write(func() {
		o.leaves(func(x lying) bool { return x.far && slices.Contains(o.doubt[to], x.m.Id) })
		o.doubt[to] = nil
	})
}

func (o *model) Doubt(to int) (int, []int, error) {
	if !o.another(to) {
		return 0, nil, api.ErrRange
	}
	if len(o.doubt[to]) == 0 {
		return 0, nil, nil
	}
	return o.made[to], o.doubt[to], nil
}

func (o *model) Arrived(from int) (int, error) {
	if !o.another(from) {
		return 0, api.ErrRange
	}
	return o.arrived[from], nil
}

func (o *model) Arrives(from, number int, l []api.Message) (int, error) {
	if !o.another(from) {
		return 0, api.ErrRange
	}
	if o.down {
		return 0, api.ErrState
	}
	if number <= o.arrived[from] {
		return o.arrived[from], nil
	}
	if number > o.arrived[from]+1 {
		return 0, api.ErrOrder
	}
	for _, m := range l {
		if !msg.Right(m) || m.House != o.id || m.Id%api.MaxHouses == o.id {
			return 0, api.ErrArg
		}
	}
	for i, m := range l {
		same := func(x api.Message) bool { return x.Id == m.Id }
		queued := o.those(func(x lying) bool { return !x.far && same(x.m) })
		if len(queued) > 0 || slices.ContainsFunc(l[:i], same) {
			return 0, api.ErrTwice
		}
	}
	err := o.write(func() {
		o.arrived[from]++
		for _, m := range l {
			name := m.Queue
			if !o.isLocal(name) || len(o.those(func(x lying) bool { return inQueue(x, name) })) >= api.MaxDepth {
				name = api.Dead
			}
			o.comes(lying{m: m, queue: name, put: -1, took: -1})
		}
	})
	if err != nil {
		return 0, err
	}
	return o.arrived[from], nil
}

func (o *model) Down() bool { return o.down }

func (o *model) Used() int { return o.has }

// asked is what a house, and the model of one, can be asked without being changed.
type asked interface {
	Down() bool
	Used() int
	Names() []api.Name
	Kept() []api.Message
	There(name string) ([]api.Message, error)
	Waits(to int) ([]api.Message, error)
	Doubt(to int) (int, []int, error)
	Arrived(from int) (int, error)
}

// called is what changes them.
type called interface {
	asked
	Name(x api.Name) error
	Unname(s string) error
	Put(u int, name string, priority int, body string) (int, error)
	Get(u int, name string) (api.Message, error)
	Commit(u int) error
	Backout(u int) error
	Batch(to int) (int, []api.Message, error)
	Came(to, number int) error
	Arrives(from, number int, l []api.Message) (int, error)
}

var (
	_ called = (*house.House)(nil)
	_ called = (*model)(nil)
)

// looks is all that a house tells of what is in it, but for how much is written.
func looks(h asked) string {
	var s strings.Builder
	fmt.Fprintln(&s, "names", h.Names(), "kept", h.Kept())
	for _, name := range []string{"in", "out", "a", "b", "c", "far", api.Dead, "none", ""} {
		l, err := h.There(name)
		fmt.Fprintln(&s, name, "there", l, api.Tell(err))
	}
	for k := -1; k <= api.MaxHouses; k++ {
		w, e := h.Waits(k)
		n, ids, f := h.Doubt(k)
		a, g := h.Arrived(k)
		fmt.Fprintln(&s, "house", k, "waits", w, api.Tell(e), "doubt", n, ids, api.Tell(f), "arrived", a, api.Tell(g))
	}
	return s.String()
}

// told is all that a house tells.
func told(h asked) string { return fmt.Sprintln(h.Used(), h.Down()) + looks(h) }
