package house

import (
	"slices"

	"waybill/api"
	"waybill/msg"
	"waybill/queue"
)

// other is what lies between the house and another one.
type other struct {
	waits   queue.Queue
	made    int   // so many batches
	doubt   []int // the numbers of the messages in doubt, as they stood when the last batch was made
	arrived int   // so many batches of it
}

// goes lets messages be in doubt, as one more batch.
func (o *other) goes(ids []int) {
	o.made++
	o.doubt = ids
}

// came lets what is in doubt wait no more.
func (o *other) came() {
	for _, id := range o.doubt {
		o.waits.Take(id)
	}
	o.doubt = nil
}

// inDoubt are the messages that are.
func (o *other) inDoubt() []api.Message {
	return slices.DeleteFunc(o.waits.Kept(), func(m api.Message) bool { return !slices.Contains(o.doubt, m.Id) })
}

// another says whether a number is that of another house.
func (h *House) another(id int) bool { return id >= 0 && id < api.MaxHouses && id != h.id }

// Waits are the messages that go to a house (also those on their way), in order; ErrRange: no such other house.
func (h *House) Waits(to int) ([]api.Message, error) {
	if !h.another(to) {
		return nil, api.ErrRange
	}
	return h.others[to].waits.Kept(), nil
}

// Batch is what is on its way to a house, and its number: what was made last, if that is not known to have come; else the first messages for it, at most MaxBatch. ErrRange: no such other house; ErrState; ErrNone: there is nothing for it; ErrLimit, ErrDevice.
func (h *House) Batch(to int) (int, []api.Message, error) {
	if !h.another(to) {
		return 0, nil, api.ErrRange
	}
	if h.down {
		return 0, nil, api.ErrState
	}
	o := &h.others[to]
	if len(o.doubt) == 0 {
		l := o.waits.There()
		if len(l) == 0 {
			return 0, nil, api.ErrNone
		}
		if err := h.writeAndDo(change{kind: made, house: to, ids: firstIds(l)}); err != nil {
			return 0, nil, err
		}
	}
	return o.made, o.inDoubt(), nil
}

// firstIds are the numbers of the messages that a batch takes.
func firstIds(l []api.Message) []int {
	var ids []int
	for _, m := range l[:min(len(l), api.MaxBatch)] {
		ids = append(ids, m.Id)
	}
	return ids
}

// Came says that a house has all up to a batch: what is on its way there is gone, if it is that one. ErrRange: no such other house; ErrState; ErrNone: nothing is on its way, or of another number; ErrLimit, ErrDevice.
func (h *House) Came(to, number int) error {
	if !h.another(to) {
		return api.ErrRange
	}
	if h.down {
		return api.ErrState
	}
	if o := &h.others[to]; len(o.doubt) == 0 || number != o.made {
		return api.ErrNone
	}
	return h.writeAndDo(change{kind: came, house: to})
}

// Doubt are the numbers of the messages that are on their way to a house, and the batch's number (none: 0). ErrRange.
func (h *House) Doubt(to int) (int, []int, error) {
	if !h.another(to) {
		return 0, nil, api.ErrRange
	}
	o := &h.others[to]
	if len(o.doubt) == 0 {
		return 0, nil, nil
	}
	return o.made, slices.Clone(o.doubt), nil
}

// Arrived is the number of the last batch that arrived from a house. ErrRange.
func (h *House) Arrived(from int) (int, error) {
	if !h.another(from) {
		return 0, api.ErrRange
	}
	return h.others[from].arrived, nil
}

// Arrives lets a batch of a house arrive: the next one, of messages for this one: each one is put into its queue, or, if there is none such, or it is full, into Dead; one that arrived is nothing. It tells the number of the last one that arrived. ErrRange: no such other house; ErrState; ErrOrder: one ahead of it has not; ErrArg: a message may not be, is for another house, or has a number of this one; ErrTwice: there is one of its number in a queue, or ahead of it; ErrLimit, ErrDevice.
func (h *House) Arrives(from, number int, l []api.Message) (int, error) {
	if !h.another(from) {
		return 0, api.ErrRange
	}
	if h.down {
		return 0, api.ErrState
	}
	o := &h.others[from]
	if number <= o.arrived {
		return o.arrived, nil
	}
	if number > o.arrived+1 {
		return 0, api.ErrOrder
	}
	if err := h.mayCome(l); err != nil {
		return 0, err
	}
	c := change{kind: arrived, house: from}
	c.queued, c.dead = h.parted(l)
	if err := h.writeAndDo(c); err != nil {
		return 0, err
	}
	return o.arrived, nil
}

// mayCome says what is wrong with messages that come: ErrArg, ErrTwice.
func (h *House) mayCome(l []api.Message) error {
	for _, m := range l {
		if !msg.Right(m) || m.House != h.id || h.gives(m.Id) {
			return api.ErrArg
		}
	}
	seen := map[int]struct{}{}
	for _, m := range l {
		if _, twice := seen[m.Id]; twice || h.has(m.Id) {
			return api.ErrTwice
		}
		seen[m.Id] = struct{}{}
	}
	return nil
}

// has says whether a queue has a message of a number, there or not.
func (h *House) has(id int) bool {
	for _, q := range h.queues {
		if q.Has(id) {
			return true
		}
	}
	return false
}

// parted are the messages that come to the queues of their names, and those that come to Dead's.
func (h *House) parted(l []api.Message) (queued, dead []api.Message) {
	coming := map[string]int{} // by queue: so many of those ahead
	for _, m := range l {
		if h.names.Local(m.Queue) && h.queue(m.Queue).Many()+coming[m.Queue] < api.MaxDepth {
			coming[m.Queue]++
			queued = append(queued, m)
		} else {
			dead = append(dead, m)
		}
	}
	return queued, dead
}
