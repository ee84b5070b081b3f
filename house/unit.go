package house

import (
	"strings"

	"waybill/api"
	"waybill/msg"
	"waybill/queue"
)

// unit is what one did since it was over last.
type unit struct {
	put  []api.Message // in the order in which it was put
	took []int         // by their numbers
}

func (u unit) didNothing() bool { return len(u.put) == 0 && len(u.took) == 0 }

func isUnit(u int) bool { return u >= 0 && u < api.MaxUnits }

// Put puts a message, by a unit (0 to below MaxUnits; it is there when that is over), to what a name stands for: its number. ErrRange: no such unit; ErrArg: the priority, or the body, may not be; the names' errors; ErrMissing: it stands for a queue of this house that is none; ErrState; ErrFull: the queue is full.
func (h *House) Put(u int, name string, priority int, body string) (int, error) {
	if !isUnit(u) {
		return 0, api.ErrRange
	}
	if priority < 0 || priority > api.MaxPriority || !msg.Body(body) {
		return 0, api.ErrArg
	}
	to, at, err := h.goesTo(name)
	if err != nil {
		return 0, err
	}
	if h.down {
		return 0, api.ErrState
	}
	m := api.Message{
		Id:       h.count*api.MaxHouses + h.id,
		Priority: priority,
		// It may be a piece of a long text, which would be kept with it.
		Body:  strings.Clone(body),
		Queue: to,
		House: at,
	}
	if err := h.line(m).Put(m, u); err != nil {
		return 0, err
	}
	h.count++
	h.units[u].put = append(h.units[u].put, m)
	return m.Id, nil
}

// Get takes the first message of a queue of the house (or of Dead), by a unit: it is gone when that is over. ErrRange: no such unit; ErrMissing: no such queue; ErrState; ErrNone: nothing is there.
func (h *House) Get(u int, name string) (api.Message, error) {
	if !isUnit(u) {
		return api.Message{}, api.ErrRange
	}
	if !h.opens(name) {
		return api.Message{}, api.ErrMissing
	}
	if h.down {
		return api.Message{}, api.ErrState
	}
	m, err := h.queue(name).Get(u)
	if err != nil {
		return api.Message{}, err
	}
	h.units[u].took = append(h.units[u].took, m.Id)
	return m, nil
}

// Commit lets a unit be over: what it put is there, what it took is gone. ErrRange; ErrNone: it did nothing; ErrState, ErrLimit, ErrDevice (it is not over then).
func (h *House) Commit(u int) error {
	if !isUnit(u) {
		return api.ErrRange
	}
	if h.units[u].didNothing() {
		return api.ErrNone
	}
	c := change{kind: over, ids: h.units[u].took}
	for _, m := range h.units[u].put {
		if m.House == h.id {
			c.queued = append(c.queued, m)
		} else {
			c.waits = append(c.waits, m)
		}
	}
	if err := h.write(c); err != nil {
		return err
	}
	// What it put comes anew, and all of it is done as it will be when the house is opened: as if nothing of it were done yet.
	h.takeBack(u)
	h.do(c)
	return nil
}

// Backout takes back what a unit did. ErrRange; ErrNone: it did nothing; ErrState.
func (h *House) Backout(u int) error {
	if !isUnit(u) {
		return api.ErrRange
	}
	if h.units[u].didNothing() {
		return api.ErrNone
	}
	if h.down {
		return api.ErrState
	}
	h.takeBack(u)
	return nil
}

// goesTo is the queue, and the house, that a name stands for. Resolve's errors; ErrMissing: there is no such queue of this house.
func (h *House) goesTo(name string) (string, int, error) {
	to, at, err := h.names.Resolve(name)
	if err != nil {
		return "", 0, err
	}
	if at >= 0 && at != h.id {
		return to, at, nil
	}
	if !h.names.Local(to) {
		return "", 0, api.ErrMissing
	}
	return to, h.id, nil
}

// line is where a message of this house's own stands.
func (h *House) line(m api.Message) *queue.Queue {
	if m.House == h.id {
		return h.queueMade(m.Queue)
	}
	return &h.others[m.House].waits
}

func (h *House) takeBack(u int) {
	for _, q := range h.queues {
		q.Ends(u, true)
	}
	for i := range h.others {
		h.others[i].waits.Ends(u, true)
	}
	h.units[u] = unit{}
}

// takeOut takes messages out of the queues that have them.
func (h *House) takeOut(ids []int) {
	for _, q := range h.queues {
		for _, id := range ids {
			q.Take(id)
		}
	}
}

// countOn lets the count be behind those of messages that a unit put.
func (h *House) countOn(l []api.Message) {
	for _, m := range l {
		h.count = max(h.count, m.Id/api.MaxHouses+1)
	}
}

// gives says whether a number is one that this house gives its messages.
func (h *House) gives(id int) bool { return id%api.MaxHouses == h.id }
