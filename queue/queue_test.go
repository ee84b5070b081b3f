package queue_test

import (
	"errors"
	"fmt"
	"math"
	"slices"
	"strings"
	"testing"

	"waybill/api"
	"waybill/msg"
	"waybill/queue"
)

// of is a message of a number and a priority.
func of(id, priority int) api.Message {
	return api.Message{Id: id, Priority: priority, Body: "x", Queue: "in", House: 1}
}

// in are the messages 0, 1, 2 and so on of these priorities, put at once.
func in(t *testing.T, priorities ...int) *queue.Queue {
	t.Helper()
	q := new(queue.Queue)
	for id, p := range priorities {
		put(t, q, id, p, -1)
	}
	return q
}

// full has MaxDepth messages of one priority: put and taken by units, and there.
func full(t *testing.T) *queue.Queue {
	t.Helper()
	q := new(queue.Queue)
	for id := range api.MaxDepth {
		put(t, q, id, 5, id%3-1)
	}
	checkGet(t, q, 3, 0)
	return q
}

func put(t *testing.T, q *queue.Queue, id, priority, unit int) {
	t.Helper()
	checkErr(t, fmt.Sprint("Put of ", id), q.Put(of(id, priority), unit), api.OK)
}

// checkErr holds an error against the one that is asked for: an Errno without a place (P3).
func checkErr(t *testing.T, what string, err error, want api.Errno) {
	t.Helper()
	var at *api.At
	if api.Tell(err) != want || errors.As(err, &at) {
		t.Errorf("%s: %v, want %v", what, err, want)
	}
}

// checkOne holds what a call answered against the message of a number.
func checkOne(t *testing.T, what string, m api.Message, err error, id int) {
	t.Helper()
	checkErr(t, what, err, api.OK)
	if m.Id != id || m != of(id, m.Priority) {
		t.Errorf("%s = %v, want %d", what, m, id)
	}
}

func checkGet(t *testing.T, q *queue.Queue, unit, id int) {
	t.Helper()
	m, err := q.Get(unit)
	checkOne(t, "Get", m, err, id)
}

func checkTake(t *testing.T, q *queue.Queue, id int) {
	t.Helper()
	m, err := q.Take(id)
	checkOne(t, "Take", m, err, id)
}

// checkNone: nothing is there to be taken; with the error the message is the zero value (P2).
func checkNone(t *testing.T, q *queue.Queue) {
	t.Helper()
	for _, unit := range []int{-1, 0, 3} {
		m, err := q.Get(unit)
		checkErr(t, "Get of none", err, api.ErrNone)
		if m != (api.Message{}) {
			t.Errorf("Get of none = %v", m)
		}
	}
}

// checkMissing: there is no message of that number.
func checkMissing(t *testing.T, q *queue.Queue, id int) {
	t.Helper()
	if q.Has(id) {
		t.Errorf("Has(%d)", id)
	}
	m, err := q.Take(id)
	checkErr(t, "Take of none", err, api.ErrMissing)
	if m != (api.Message{}) {
		t.Errorf("Take of none = %v", m)
	}
}

func ids(l []api.Message) []int {
	var n []int
	for _, m := range l {
		n = append(n, m.Id)
	}
	return n
}

// check holds the numbers of those that are there, of those that are kept, and how many there are, against what is asked for.
func check(t *testing.T, q *queue.Queue, there, kept []int, many int) {
	t.Helper()
	if got := ids(q.There()); !slices.Equal(got, there) {
		t.Errorf("There = %v, want %v", got, there)
	}
	if got := ids(q.Kept()); !slices.Equal(got, kept) {
		t.Errorf("Kept = %v, want %v", got, kept)
	}
	if got := q.Many(); got != many {
		t.Errorf("Many = %d, want %d", got, many)
	}
	for _, id := range kept {
		if !q.Has(id) {
			t.Errorf("%d is kept, and Has says no", id)
		}
	}
}

// Promise 3.1: the zero value has no messages.
func TestNone(t *testing.T) {
	var q queue.Queue
	check(t, &q, nil, nil, 0)
	checkNone(t, &q)
	for _, id := range []int{0, 1, -1, api.MaxId, math.MaxInt, math.MinInt} {
		checkMissing(t, &q, id)
	}
	for _, unit := range []int{-1, 0, 7, math.MaxInt, math.MinInt} {
		q.Ends(unit, false)
		q.Ends(unit, true)
	}
	check(t, &q, nil, nil, 0)
}

// Promise 3.1: what is put comes out as it went in.
func TestWhole(t *testing.T) {
	m := api.Message{Id: api.MaxId, Priority: api.MaxPriority, Body: strings.Repeat("b", api.MaxBody), Queue: strings.Repeat("q", api.MaxWord), House: api.MaxHouses - 1}
	for _, unit := range []int{-1, math.MinInt} {
		var q queue.Queue
		checkErr(t, "Put", q.Put(m, unit), api.OK)
		if !slices.Equal(q.There(), []api.Message{m}) || !slices.Equal(q.Kept(), []api.Message{m}) || !q.Has(m.Id) || q.Many() != 1 {
			t.Errorf("There = %v, Kept = %v, Many = %d", q.There(), q.Kept(), q.Many())
		}
		if got, err := q.Get(unit); got != m || err != nil {
			t.Errorf("Get = %v, %v", got, err)
		}
		check(t, &q, nil, nil, 0)
		q.Push(m, unit)
		if got, err := q.Take(m.Id); got != m || err != nil {
			t.Errorf("Take = %v, %v", got, err)
		}
		check(t, &q, nil, nil, 0)
	}
}

// Promise 3.1: Put takes no message that is not right.
func TestPutWrong(t *testing.T) {
	for _, m := range []api.Message{
		{},
		{Id: -1, Body: "x", Queue: "in"},
		{Id: api.MaxId + 1, Body: "x", Queue: "in"},
		{Id: 7, Priority: -1, Body: "x", Queue: "in"},
		{Id: 7, Priority: api.MaxPriority + 1, Body: "x", Queue: "in"},
		{Id: 7, Queue: "in"},
		{Id: 7, Body: strings.Repeat("x", api.MaxBody+1), Queue: "in"},
		{Id: 7, Body: "X", Queue: "in"},
		{Id: 7, Body: "x"},
		{Id: 7, Body: "x", Queue: "i n"},
		{Id: 7, Body: "x", Queue: strings.Repeat("q", api.MaxWord+1)},
		{Id: 7, Body: "x", Queue: "in", House: -1},
		{Id: 7, Body: "x", Queue: "in", House: api.MaxHouses},
	} {
		for _, unit := range []int{-1, 0, 3} {
			var q queue.Queue
			checkErr(t, fmt.Sprint("Put of ", m), q.Put(m, unit), api.ErrArg)
			check(t, &q, nil, nil, 0)
		}
	}
}

// Promise 3.1: each Id is once, whatever became of the one that has it, until that is gone.
func TestPutTwice(t *testing.T) {
	for _, c := range []struct {
		what    string
		begin   func(q *queue.Queue)
		there   []int
		kept    []int
		endings []func(q *queue.Queue)
	}{
		{"there", func(q *queue.Queue) { put(t, q, 7, 5, -1) }, []int{7}, []int{7},
			[]func(q *queue.Queue){func(q *queue.Queue) { checkGet(t, q, -1, 7) }, func(q *queue.Queue) { checkTake(t, q, 7) }}},
		{"put", func(q *queue.Queue) { put(t, q, 7, 5, 2) }, nil, nil,
			[]func(q *queue.Queue){func(q *queue.Queue) { q.Ends(2, true) }, func(q *queue.Queue) { checkTake(t, q, 7) }}},
		{"taken", func(q *queue.Queue) { put(t, q, 7, 5, -1); checkGet(t, q, 2, 7) }, nil, []int{7},
			[]func(q *queue.Queue){func(q *queue.Queue) { q.Ends(2, false) }, func(q *queue.Queue) { checkTake(t, q, 7) }}},
	} {
		for _, gone := range c.endings {
			var q queue.Queue
			c.begin(&q)
			for _, unit := range []int{-1, 0, 2} {
				checkErr(t, c.what+": Put again", q.Put(of(7, 9), unit), api.ErrTwice)
				checkErr(t, c.what+": Put again what may not be", q.Put(of(7, 10), unit), api.ErrArg)
			}
			check(t, &q, c.there, c.kept, 1)
			if !q.Has(7) {
				t.Errorf("%s: Has says no", c.what)
			}
			gone(&q)
			checkMissing(t, &q, 7)
			check(t, &q, nil, nil, 0)
			put(t, &q, 7, 9, -1)
			check(t, &q, []int{7}, []int{7}, 1)
		}
	}
}

// Promise 3.1: the twentieth message has room, the one behind it has none, whatever those there are: put, taken or there.
func TestFull(t *testing.T) {
	q := full(t)
	there, kept := ids(q.There()), ids(q.Kept())
	for _, unit := range []int{-1, 0, 3} {
		checkErr(t, "one too many", q.Put(of(100, 9), unit), api.ErrFull)
		checkErr(t, "one too many that may not be", q.Put(of(100, -1), unit), api.ErrArg)
		for id := range api.MaxDepth {
			checkErr(t, "one too many that is there", q.Put(of(id, 9), unit), api.ErrTwice)
		}
		check(t, q, there, kept, api.MaxDepth)
		checkMissing(t, q, 100)
	}
	for i, gone := range []func(){
		func() { checkTake(t, q, 1) },    // put
		func() { checkTake(t, q, 0) },    // taken
		func() { checkGet(t, q, -1, 3) }, // there
		func() { checkTake(t, q, 6) },    // there
	} {
		gone()
		put(t, q, 100+i, 1, i-1)
		checkErr(t, "one too many", q.Put(of(200, 1), i-1), api.ErrFull)
	}
	q.Ends(0, false)
	checkErr(t, "one too many, though a unit that put is over", q.Put(of(200, 1), -1), api.ErrFull)
}

// Promise 3.1: Push is Put that finds room always; Put finds none behind it.
func TestPush(t *testing.T) {
	q := full(t)
	q.Push(of(100, 5), -1)
	q.Push(of(101, 6), -7)
	q.Push(of(102, 4), 8)
	q.Push(of(103, 9), 8)
	if q.Many() != api.MaxDepth+4 || !q.Has(100) || !q.Has(102) {
		t.Errorf("Many = %d", q.Many())
	}
	checkErr(t, "Put behind Push", q.Put(of(104, 1), -1), api.ErrFull)
	there := []int{101, 3, 6, 9, 12, 15, 18, 100}
	check(t, q, there, slices.Insert(slices.Clone(there), 1, 0), api.MaxDepth+4)
	q.Ends(8, false)
	there = slices.Concat([]int{103}, there, []int{102})
	check(t, q, there, slices.Insert(slices.Clone(there), 2, 0), api.MaxDepth+4)
	for range 4 {
		checkErr(t, "Put while there are more than MaxDepth", q.Put(of(104, 1), -1), api.ErrFull)
		if _, err := q.Get(-1); err != nil {
			t.Error(err)
		}
	}
	checkErr(t, "Put with MaxDepth", q.Put(of(104, 1), -1), api.ErrFull)
	checkTake(t, q, 18)
	put(t, q, 104, 1, -1)
}

// P1: what Push is given that may not be, or is there, does no harm to the rest.
func TestPushWrong(t *testing.T) {
	q := in(t, 3, 3)
	for _, m := range []api.Message{{}, of(-1, 5), of(8, -1), of(8, math.MaxInt), of(8, math.MinInt), of(0, 9), of(1, 3)} {
		q.Push(m, -1)
		q.Push(m, 2)
	}
	q.Ends(2, true)
	checkGet(t, q, -1, 0)
	checkGet(t, q, -1, 1)
}

// Promise 3.1: the higher priority first, and those of one priority as they came, whoever put them.
func TestOrder(t *testing.T) {
	q := in(t, 2, 0, 9, 2, 5, 0, 9, 2)
	want := []int{2, 6, 4, 0, 3, 7, 1, 5}
	check(t, q, want, want, 8)
	put(t, q, 100, 2, 1)
	put(t, q, 101, 9, 0)
	put(t, q, 102, 2, -1)
	put(t, q, 103, 2, 0)
	q.Push(of(104, 2), -1)
	want = []int{2, 6, 4, 0, 3, 7, 102, 104, 1, 5}
	check(t, q, want, want, 13)
	q.Ends(0, false)
	want = []int{2, 6, 101, 4, 0, 3, 7, 102, 103, 104, 1, 5}
	check(t, q, want, want, 13)
	q.Ends(1, false)
	want = []int{2, 6, 101, 4, 0, 3, 7, 100, 102, 103, 104, 1, 5}
	check(t, q, want, want, 13)
	for _, id := range want {
		checkGet(t, q, -1, id)
	}
	checkNone(t, q)
}

// Promise 3.1: one that is gone, and put again, came anew.
func TestOrderAnew(t *testing.T) {
	q := in(t, 4, 4, 4)
	checkTake(t, q, 0)
	put(t, q, 0, 4, -1)
	check(t, q, []int{1, 2, 0}, []int{1, 2, 0}, 3)
	checkGet(t, q, -1, 1)
	q.Push(of(1, 4), -1)
	check(t, q, []int{2, 0, 1}, []int{2, 0, 1}, 3)
}

// Promise 3.1, and the document's third example: what a unit put is there when it is over, and not before, not even for itself.
func TestPutByUnit(t *testing.T) {
	q := in(t, 2)
	put(t, q, 1, 5, 0)
	check(t, q, []int{0}, []int{0}, 2)
	checkGet(t, q, 0, 0)
	checkNone(t, q)
	q.Ends(0, true)
	check(t, q, []int{0}, []int{0}, 1)

	put(t, q, 1, 5, 0)
	q.Ends(1, false)
	q.Ends(1, true)
	check(t, q, []int{0}, []int{0}, 2)
	q.Ends(0, false)
	check(t, q, []int{1, 0}, []int{1, 0}, 2)
	q.Ends(0, true)
	check(t, q, []int{1, 0}, []int{1, 0}, 2)
}

// Promise 3.1: what a unit took is kept, and not there; taken back it stands where it stood; over, it is gone.
func TestTakenByUnit(t *testing.T) {
	q := in(t, 3, 3, 3, 3)
	checkGet(t, q, 0, 0)
	checkGet(t, q, 1, 1)
	checkGet(t, q, 0, 2)
	check(t, q, []int{3}, []int{0, 1, 2, 3}, 4)
	put(t, q, 4, 3, -1)
	put(t, q, 5, 4, -1)
	check(t, q, []int{5, 3, 4}, []int{5, 0, 1, 2, 3, 4}, 6)
	q.Ends(0, true)
	check(t, q, []int{5, 0, 2, 3, 4}, []int{5, 0, 1, 2, 3, 4}, 6)
	q.Ends(1, false)
	check(t, q, []int{5, 0, 2, 3, 4}, []int{5, 0, 2, 3, 4}, 5)
	checkMissing(t, q, 1)
	q.Ends(1, true)
	check(t, q, []int{5, 0, 2, 3, 4}, []int{5, 0, 2, 3, 4}, 5)

	checkGet(t, q, 0, 5)
	checkGet(t, q, 1, 0)
	q.Ends(0, true)
	checkGet(t, q, 1, 5)
	q.Ends(1, false)
	check(t, q, []int{2, 3, 4}, []int{2, 3, 4}, 3)
}

// Promise 3.1: what a unit put and what it took, when it ends; those of other units stay as they are.
func TestEnds(t *testing.T) {
	begin := func() *queue.Queue {
		q := in(t, 8, 7, 6)
		put(t, q, 10, 5, 4)
		put(t, q, 11, 9, 4)
		put(t, q, 12, 8, 2)
		checkGet(t, q, 4, 0)
		checkGet(t, q, 2, 1)
		check(t, q, []int{2}, []int{0, 1, 2}, 6)
		return q
	}
	q := begin()
	q.Ends(4, false)
	check(t, q, []int{11, 2, 10}, []int{11, 1, 2, 10}, 5)
	q.Ends(2, false)
	check(t, q, []int{11, 12, 2, 10}, []int{11, 12, 2, 10}, 4)

	q = begin()
	q.Ends(4, true)
	check(t, q, []int{0, 2}, []int{0, 1, 2}, 4)
	q.Ends(2, true)
	check(t, q, []int{0, 1, 2}, []int{0, 1, 2}, 3)

	q = begin()
	q.Ends(2, true)
	q.Ends(4, false)
	check(t, q, []int{11, 1, 2, 10}, []int{11, 1, 2, 10}, 4)
}

// Promise 3.1: what a unit put it may take itself when it is over, and that is of its next time.
func TestPutAndTookItself(t *testing.T) {
	for _, back := range []bool{false, true} {
		q := in(t)
		put(t, q, 0, 1, 3)
		checkNone(t, q)
		q.Ends(3, false)
		checkGet(t, q, 3, 0)
		check(t, q, nil, []int{0}, 1)
		q.Ends(3, back)
		if back {
			check(t, q, []int{0}, []int{0}, 1)
		} else {
			check(t, q, nil, nil, 0)
		}
	}
}

// Promise 3.1: a unit below 0 is none: what it puts is there, what it gets is gone, it does not end.
func TestUnitBelowNought(t *testing.T) {
	for _, unit := range []int{-1, -2, math.MinInt} {
		q := in(t, 1, 1, 1, 1)
		put(t, q, 4, 2, unit)
		put(t, q, 5, 0, 6)
		checkGet(t, q, 6, 4)
		checkGet(t, q, unit, 0)
		checkMissing(t, q, 0)
		for _, back := range []bool{true, false} {
			for _, ends := range []int{unit, -1, -2} {
				q.Ends(ends, back)
			}
			check(t, q, []int{1, 2, 3}, []int{4, 1, 2, 3}, 5)
		}
	}
}

// Promise 3.1: a unit is any number from 0 on.
func TestUnits(t *testing.T) {
	for _, unit := range []int{0, 1, api.MaxUnits, 1 << 40, math.MaxInt} {
		q := in(t, 1, 1)
		put(t, q, 2, 9, unit)
		checkGet(t, q, unit, 0)
		check(t, q, []int{1}, []int{0, 1}, 3)
		q.Ends(unit, false)
		check(t, q, []int{2, 1}, []int{2, 1}, 2)
	}
}

// Promise 3.1: Take takes out one that is there, put or taken; what ends later does not bring it back.
func TestTake(t *testing.T) {
	for _, back := range []bool{false, true} {
		q := in(t, 5, 5, 5)
		put(t, q, 3, 5, 0)
		checkGet(t, q, 0, 0)
		for n, id := range []int{3, 0, 1} {
			if !q.Has(id) {
				t.Errorf("Has(%d) says no", id)
			}
			checkTake(t, q, id)
			checkMissing(t, q, id)
			if q.Many() != 3-n {
				t.Errorf("Many = %d", q.Many())
			}
		}
		for _, id := range []int{-1, 4, api.MaxId, math.MaxInt, math.MinInt} {
			checkMissing(t, q, id)
		}
		q.Ends(0, back)
		check(t, q, []int{2}, []int{2}, 1)
	}
}

// P4: what comes out is the caller's, and no two lists of it share memory.
func TestMemory(t *testing.T) {
	q := in(t, 3, 2, 1)
	checkGet(t, q, 0, 0)
	there, kept := q.There(), q.Kept()
	for _, l := range [][]api.Message{there, kept} {
		for i := range l {
			l[i] = of(50+i, 9)
		}
		_ = append(l[:1], of(60, 9))
	}
	check(t, q, []int{1, 2}, []int{0, 1, 2}, 3)
	again := q.There()
	checkGet(t, q, -1, 1)
	q.Ends(0, true)
	put(t, q, 7, 9, -1)
	if !slices.Equal(ids(again), []int{1, 2}) {
		t.Errorf("a list that was told is %v now", ids(again))
	}
}

// P4: two queues have nothing in common.
func TestTwoQueues(t *testing.T) {
	a, b := in(t, 1, 2), in(t, 3)
	checkGet(t, a, 0, 1)
	b.Ends(0, false)
	checkTake(t, b, 0)
	check(t, a, []int{0}, []int{1, 0}, 2)
	check(t, b, nil, nil, 0)
}

// entry is a message as the promise's words have it: as the how many-th it came, and by whom it is put and taken (-1: by none).
type entry struct {
	m          api.Message
	came       int
	put, taken int
}

// model is a queue by the promise's words, put in order each time it is asked.
type model struct {
	all   []entry
	count int
}

func (o *model) ordered() []entry {
	l := slices.Clone(o.all)
	slices.SortFunc(l, func(a, b entry) int { return msg.Compare(a.m, b.m, a.came, b.came) })
	return l
}

func (o *model) at(id int) int {
	return slices.IndexFunc(o.all, func(e entry) bool { return e.m.Id == id })
}

func (o *model) Put(m api.Message, unit int) error {
	switch {
	case !msg.Right(m):
		return api.ErrArg
	case o.at(m.Id) >= 0:
		return api.ErrTwice
	case len(o.all) >= api.MaxDepth:
		return api.ErrFull
	}
	o.Push(m, unit)
	return nil
}

func (o *model) Push(m api.Message, unit int) {
	o.count++
	o.all = append(o.all, entry{m, o.count, max(unit, -1), -1})
}

func (o *model) Get(unit int) (api.Message, error) {
	for _, e := range o.ordered() {
		if e.put >= 0 || e.taken >= 0 {
			continue
		}
		if unit < 0 {
			return o.Take(e.m.Id)
		}
		o.all[o.at(e.m.Id)].taken = unit
		return e.m, nil
	}
	return api.Message{}, api.ErrNone
}

func (o *model) Take(id int) (api.Message, error) {
	i := o.at(id)
	if i < 0 {
		return api.Message{}, api.ErrMissing
	}
	m := o.all[i].m
	o.all = slices.Delete(o.all, i, i+1)
	return m, nil
}

func (o *model) Ends(unit int, back bool) {
	if unit < 0 {
		return
	}
	var l []entry
	for _, e := range o.all {
		if back && e.put == unit || !back && e.taken == unit {
			continue
		}
		if e.put == unit {
			e.put = -1
		}
		if e.taken == unit {
			e.taken = -1
		}
		l = append(l, e)
	}
	o.all = l
}

func (o *model) told() string {
	var there, kept []api.Message
	for _, e := range o.ordered() {
		if e.put < 0 {
			kept = append(kept, e.m)
			if e.taken < 0 {
				there = append(there, e.m)
			}
		}
	}
	has := make([]bool, 40)
	for id := range has {
		has[id] = o.at(id) >= 0
	}
	return fmt.Sprint(there, kept, has, len(o.all))
}

func told(q *queue.Queue) string {
	has := make([]bool, 40)
	for id := range has {
		has[id] = q.Has(id)
	}
	return fmt.Sprint(q.There(), q.Kept(), has, q.Many())
}

// die: numbers that look drawn, the same each time.
type die uint64

func (d *die) n(most int) int {
	*d = *d*6364136223846793005 + 1442695040888963407
	return int(uint64(*d>>33) % uint64(most))
}

// Promise 3.1: whatever is done in whatever order, a queue answers what the promise's words say.
func TestAgainstWords(t *testing.T) {
	d := die(1)
	for range 400 {
		var q queue.Queue
		var o model
		what, got, want := "", "", ""
		for range 120 {
			kind, unit, m := d.n(12), d.n(6)-2, of(d.n(40), d.n(5))
			if d.n(40) == 0 {
				m.Body = "X"
			}
			what = fmt.Sprint(kind, unit, m)
			switch kind {
			case 0, 1:
				x, err := q.Get(unit)
				y, wrong := o.Get(unit)
				got, want = fmt.Sprint(x, err), fmt.Sprint(y, wrong)
			case 2:
				x, err := q.Take(m.Id)
				y, wrong := o.Take(m.Id)
				got, want = fmt.Sprint(x, err), fmt.Sprint(y, wrong)
			case 3, 4:
				if d.n(3) == 0 { // seldom, so that queues grow full
					q.Ends(unit, kind == 4)
					o.Ends(unit, kind == 4)
				}
			case 5:
				if msg.Right(m) && !q.Has(m.Id) {
					q.Push(m, unit)
					o.Push(m, unit)
				}
			default:
				got, want = fmt.Sprint(q.Put(m, unit)), fmt.Sprint(o.Put(m, unit))
			}
			got, want = got+told(&q), want+o.told()
			if got != want {
				t.Fatalf("%s: %s, want %s", what, got, want)
			}
		}
	}
}
