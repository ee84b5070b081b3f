package house

import (
	"strconv"
	"strings"

	"waybill/api"
	"waybill/msg"
)

// The kinds of changes.
const (
	named   = iota // a name stands for something
	unnamed        // a name is none any more
	over           // a unit is over
	made           // a batch for a house is made
	came           // what is in doubt came there
	arrived        // a batch of a house arrived
)

// change is what a call that writes does to a house. It tells what came of the call, not what was asked: when it is read again no unit is under way, and a queue that was full then may have room.
type change struct {
	kind   int
	name   api.Name
	house  int           // the other one, of a batch
	ids    []int         // of messages that a unit took, or that are in doubt
	queued []api.Message // that come to the queues of their names
	dead   []api.Message // that come to Dead's
	waits  []api.Message // that wait for their houses
}

const (
	between = ":"  // behind each part of a change, and in none
	end     = "\n" // behind a change, and nowhere in it: what is torn has none
)

// text is the change as it is written.
func (c change) text() string {
	parts := [...]string{
		strconv.Itoa(c.kind), c.name.Name, c.name.To, strconv.Itoa(c.name.House), strconv.Itoa(c.house),
		numbersText(c.ids), messagesText(c.queued), messagesText(c.dead), messagesText(c.waits),
	}
	return strings.Join(parts[:], between) + between + end
}

func numbersText(l []int) string {
	var text []byte
	for i, n := range l {
		if i > 0 {
			text = append(text, ' ')
		}
		text = strconv.AppendInt(text, int64(n), 10)
	}
	return string(text)
}

func messagesText(l []api.Message) string {
	text, err := msg.Write(l)
	if err != nil {
		return "" // a change has messages that are right alone
	}
	return text
}

// whole says whether all of a change is written in a place.
func whole(text string) bool { return strings.HasSuffix(text, end) }

// reader takes a text apart, from its beginning on.
type reader struct {
	rest  string
	wrong bool // something was of another form
}

// readChange is the change that is written in a place; false: none is, or it is torn.
func readChange(text string) (change, bool) {
	if !whole(text) {
		return change{}, false
	}
	r := reader{rest: text}
	c := change{
		kind:   r.number(),
		name:   api.Name{Name: r.part(), To: r.part(), House: r.number()},
		house:  r.number(),
		ids:    r.numbers(),
		queued: r.messages(),
		dead:   r.messages(),
		waits:  r.messages(),
	}
	if r.wrong || r.rest != end {
		return change{}, false
	}
	return c, true
}

func (r *reader) part() string {
	part, rest, found := strings.Cut(r.rest, between)
	r.rest = rest
	r.wrong = r.wrong || !found
	return part
}

func (r *reader) number() int { return r.numberOf(r.part()) }

func (r *reader) numbers() []int {
	var l []int
	for _, s := range strings.Fields(r.part()) {
		l = append(l, r.numberOf(s))
	}
	return l
}

func (r *reader) numberOf(s string) int {
	n, err := strconv.Atoi(s)
	r.wrong = r.wrong || err != nil
	return n
}

func (r *reader) messages() []api.Message {
	l, err := msg.Read(r.part())
	r.wrong = r.wrong || err != nil
	return l
}
