package house_test

import (
	"fmt"
	"math"
	"slices"
	"testing"

	"waybill/api"
	"waybill/house"
)

// writers are calls that write, of a house that can: named, with messages 1 for house 2 in doubt, 5 taken by unit 1, and 9 put by unit 1.
func writers(h *house.House) map[string]func() (any, error) {
	return map[string]func() (any, error){
		"Name":    func() (any, error) { return nil, h.Name(local("new")) },
		"Unname":  func() (any, error) { return nil, h.Unname("out") },
		"Commit":  func() (any, error) { return nil, h.Commit(1) },
		"Batch":   func() (any, error) { return batchOf(h, 3) },
		"Came":    func() (any, error) { return nil, h.Came(2, 1) },
		"Arrives": func() (any, error) { return h.Arrives(0, 1, []api.Message{to1(0, 1, "in")}) },
	}
}

// ready is a house that can do what writers do. So many places are written already.
func ready(t *testing.T) (*house.House, *house.Disk, int) {
	t.Helper()
	h, d := named(t)
	ok(t, "Name", h.Name(api.Name{Name: "third", To: "in", House: 3}))
	put(t, h, 0, "far", 1, 1)
	put(t, h, 0, "in", 1, 5)
	put(t, h, 0, "third", 1, 9)
	commit(t, h, 0)
	checkBatch(t, h, 2, 1, 1)
	get(t, h, 1, "in", 5)
	put(t, h, 1, "in", 1, 13)
	put(t, h, 1, "far", 1, 17)
	return h, d, 6
}

// Promise 4.1: each call that writes uses one place; the others none.
func TestUsed(t *testing.T) {
	for what := range writers(nil) {
		h, d, used := ready(t)
		if h.Used() != used {
			t.Fatalf("Used = %d, want %d", h.Used(), used)
		}
		_, err := writers(h)[what]()
		ok(t, what, err)
		if h.Used() != used+1 || open(t, d).Used() != used+1 || h.Down() {
			t.Errorf("%s: Used = %d, %d anew, Down = %v", what, h.Used(), open(t, d).Used(), h.Down())
		}
		told(h)
		put(t, h, 3, "in", 1, 21)
		get := func() error { _, err := h.Get(3, api.Dead); return err }
		checkErr(t, "Get", get(), api.ErrNone)
		ok(t, "Backout", h.Backout(3))
		h.Arrives(0, 0, nil)
		h.Torn(3)
		d.Cut(3)
		if h.Used() != used+1 {
			t.Errorf("%s: Used = %d behind calls that do not write", what, h.Used())
		}
	}
}

// Promise 4.1: wherever the power is off: ErrDevice, and nothing is changed but that the house is Down; then ErrState.
func TestPowerOff(t *testing.T) {
	for what := range writers(nil) {
		for _, torn := range []int{math.MinInt, -1, 0, 1, 5, math.MaxInt} {
			h, d, used := ready(t)
			before, anew := looks(h), told(open(t, d))
			d.Cut(0)
			h.Torn(torn)
			if h.Down() {
				t.Error("Down ahead of a write")
			}
			got, err := writers(h)[what]()
			checkErr(t, what, err, api.ErrDevice)
			if fmt.Sprint(got) != fmt.Sprint(zeroLike(got)) {
				t.Errorf("%s: %v with an error", what, got)
			}
			if !h.Down() || h.Used() != used || looks(h) != before {
				t.Errorf("%s, torn %d: Down %v, Used %d, or something changed", what, torn, h.Down(), h.Used())
			}
			for _, power := range []int{0, -1} {
				d.Cut(power) // it is Down, until it is opened anew
				checkDown(t, h)
				if now := told(open(t, d)); now != anew {
					t.Errorf("%s, torn %d: opened anew:\n%s\nwant:\n%s", what, torn, now, anew)
				}
			}
			h = open(t, d)
			put(t, h, 0, "in", 1, 13)
			commit(t, h, 0)
			checkThere(t, h, "in", 5, 13)
			checkThere(t, open(t, d), "in", 5, 13)
		}
	}
}

// checkDown: a house of ready that is Down tells ErrState of all that would do something, behind the errors that are told ahead.
func checkDown(t *testing.T, h *house.House) {
	t.Helper()
	checkRefused(t, h, writers(h), api.ErrState)
	checkRefused(t, h, map[string]func() (any, error){
		"Put":                   func() (any, error) { return h.Put(0, "in", 1, "x") },
		"Put for another house": func() (any, error) { return h.Put(0, "far", 1, "x") },
		"Get":                   func() (any, error) { return h.Get(0, api.Dead) },
		"Backout":               func() (any, error) { return nil, h.Backout(1) },
		"Batch, none":           func() (any, error) { return batchOf(h, 0) },
		"Batch, in doubt":       func() (any, error) { return batchOf(h, 2) },
		"Came, none":            func() (any, error) { return nil, h.Came(0, 1) },
		"Arrives, arrived":      func() (any, error) { return h.Arrives(0, 0, nil) },
		"Arrives, order":        func() (any, error) { return h.Arrives(0, 9, nil) },
		"Arrives, wrong":        func() (any, error) { return h.Arrives(0, 1, []api.Message{{}}) },
	}, api.ErrState)
	checkRefused(t, h, map[string]func() (any, error){
		"Commit":  func() (any, error) { return nil, h.Commit(0) },
		"Backout": func() (any, error) { return nil, h.Backout(0) },
	}, api.ErrNone)
	checkRefused(t, h, map[string]func() (any, error){
		"Commit":  func() (any, error) { return nil, h.Commit(-1) },
		"Backout": func() (any, error) { return nil, h.Backout(api.MaxUnits) },
		"Put":     func() (any, error) { return h.Put(-1, "in", 1, "x") },
		"Get":     func() (any, error) { return h.Get(-1, "in") },
	}, api.ErrRange)
	checkRefused(t, h, map[string]func() (any, error){
		"Name": func() (any, error) { return nil, h.Name(api.Name{}) },
		"Put":  func() (any, error) { return h.Put(0, "in", 1, "") },
	}, api.ErrArg)
	checkRefused(t, h, map[string]func() (any, error){
		"Unname": func() (any, error) { return nil, h.Unname("none") },
		"Put":    func() (any, error) { return h.Put(0, "none", 1, "x") },
		"Get":    func() (any, error) { return h.Get(0, "none") },
	}, api.ErrMissing)
	checkRefused(t, h, map[string]func() (any, error){
		"Name": func() (any, error) { return nil, h.Name(local(api.Dead)) },
	}, api.ErrName)
}

// Promise 4.1: behind how many writes the power goes off; from then on it is off; below 0 it is on.
func TestCut(t *testing.T) {
	for n := range 5 {
		h, d := named(t)
		d.Cut(99)
		d.Cut(n)
		for i := range n {
			ok(t, "Name", h.Name(local(fmt.Sprint("q", i))))
		}
		_, err := h.Put(0, "in", 1, "x")
		ok(t, "Put, without power", err)
		get := func() error { _, err := h.Get(0, "in"); return err }
		checkErr(t, "Get, without power", get(), api.ErrNone)
		for range 3 { // whoever asks
			h = open(t, d)
			if h.Down() || h.Used() != 3+n {
				t.Errorf("opened without power: Down %v, Used %d", h.Down(), h.Used())
			}
			checkErr(t, "Name", h.Name(local("more")), api.ErrDevice)
		}
		d.Cut(-1 - n)
		h = open(t, d)
		for i := range 9 {
			ok(t, "Name, with power", h.Name(local(fmt.Sprint("p", i))))
		}
	}
}

// Promise 4.1: what is not written does not count towards the cut, nor what is written through another House less.
func TestCutCounts(t *testing.T) {
	h, d := named(t)
	d.Cut(2)
	checkErr(t, "Name", h.Name(api.Name{}), api.ErrArg)
	checkErr(t, "Commit", h.Commit(0), api.ErrNone)
	put(t, h, 0, "in", 1, 1)
	open(t, d)
	commit(t, h, 0)
	h = open(t, d)
	ok(t, "Unname", h.Unname("out"))
	checkErr(t, "Unname", h.Unname("in"), api.ErrDevice)
}

// Promise 4.1: a House's Torn is its own: one that is opened has none at first.
func TestTornAtFirst(t *testing.T) {
	h, d := named(t)
	h.Torn(3)
	d.Cut(0)
	checkErr(t, "Unname", h.Unname("in"), api.ErrDevice)
	h = open(t, d)
	checkErr(t, "Unname", h.Unname("in"), api.ErrDevice)
	d.Cut(-1)
	h = open(t, d)
	ok(t, "Unname", h.Unname("in"))
	checkAnew(t, h, d)
}

// Promise 4.1: Used at MaxLog: nothing more is written, with power or without, and the house is not Down of it.
func TestUsedUp(t *testing.T) {
	h, d, used := ready(t)
	for i := range api.MaxLog - used {
		ok(t, "Name", h.Name(api.Name{Name: "flip", To: fmt.Sprint("t", i), House: -1}))
	}
	for _, power := range []int{-1, 0} {
		d.Cut(power)
		if h.Used() != api.MaxLog {
			t.Fatalf("Used = %d", h.Used())
		}
		checkRefused(t, h, writers(h), api.ErrLimit)
		checkBatch(t, h, 2, 1, 1) // it is made: nothing is written
		if n, err := h.Arrives(0, 0, nil); n != 0 || err != nil {
			t.Errorf("Arrives = %d, %v", n, err)
		}
		checkErr(t, "Name", h.Name(api.Name{}), api.ErrArg)
		checkErr(t, "Unname", h.Unname("none"), api.ErrMissing)
		checkErr(t, "Commit", h.Commit(0), api.ErrNone)
	}
	ok(t, "Backout", h.Backout(1))
	put(t, h, 2, "in", 1, 21)
	checkErr(t, "Commit", h.Commit(2), api.ErrLimit)
	ok(t, "Backout", h.Backout(2))
	h = checkAnew(t, h, d)
	checkErr(t, "Unname", h.Unname("in"), api.ErrLimit)
}

// Promise 4.1: the last place but one may be torn, and the last one, too.
func TestTornAtTheEnd(t *testing.T) {
	h, d := named(t)
	for i := 3; i < api.MaxLog; i++ {
		if i >= api.MaxLog-2 {
			d.Cut(0)
			h.Torn(i)
			checkErr(t, "Name", h.Name(local("more")), api.ErrDevice)
			d.Cut(-1)
			h = open(t, d)
		}
		ok(t, "Name", h.Name(api.Name{Name: "flip", To: fmt.Sprint("t", i), House: -1}))
	}
	checkErr(t, "Name", h.Name(local("more")), api.ErrLimit)
	checkAnew(t, h, d)
}

// step is a call of a run.
type step func(h called) string

func run() []step {
	name := func(x api.Name) step { return func(h called) string { return fmt.Sprint(h.Name(x)) } }
	unname := func(s string) step { return func(h called) string { return fmt.Sprint(h.Unname(s)) } }
	put := func(u int, name string, priority int) step {
		return func(h called) string { return fmt.Sprint(h.Put(u, name, priority, "x")) }
	}
	get := func(u int, name string) step { return func(h called) string { return fmt.Sprint(h.Get(u, name)) } }
	commit := func(u int) step { return func(h called) string { return fmt.Sprint(h.Commit(u)) } }
	batch := func(to int) step { return func(h called) string { return fmt.Sprint(h.Batch(to)) } }
	came := func(to, number int) step { return func(h called) string { return fmt.Sprint(h.Came(to, number)) } }
	arrives := func(from, number int, l ...api.Message) step {
		return func(h called) string { return fmt.Sprint(h.Arrives(from, number, l)) }
	}
	return []step{
		name(local("in")), name(api.Name{Name: "far", To: "in", House: 2}), name(api.Name{Name: "a", To: "far", House: -1}),
		put(0, "in", 1), put(0, "a", 1), put(1, "in", 2), put(0, "in", 3), put(1, "far", 9), commit(0),
		arrives(0, 1, to1(0, 2, "in"), to1(4, 2, "none"), to1(api.MaxId, 2, "in")), commit(1),
		get(2, "in"), get(2, api.Dead), put(2, "in", 2), put(3, "far", 4), batch(2), get(3, "in"), commit(2),
		unname("in"), came(2, 1), commit(3), arrives(0, 2, to1(8, 2, "in")), batch(2), name(local("in")), unname("a"),
		get(4, api.Dead), arrives(3, 1), came(2, 2), commit(4), get(0, "in"), put(0, "far", 1), commit(0), batch(2),
	}
}

// Promise 4.1, and all or nothing: the power goes off at each write of a run, each number of bytes of it is torn, and the house is opened anew: what units that were over did is there, and nothing of what others did. Then the run goes on.
func TestPowerAtEachWrite(t *testing.T) {
	writes := 0
	for cut := 0; cut <= writes; cut++ {
		for torn := -1; torn <= 120; torn++ {
			d, p := new(house.Disk), &paper{cut: cut}
			h, o := open(t, d), openModel(1, p)
			d.Cut(cut)
			h.Torn(torn)
			for i, s := range run() {
				got, want := s(h), s(o)
				if got != want || o.down && told(h) != told(o) {
					t.Fatalf("cut %d, torn %d, step %d: %s\n%s\nwant %s\n%s", cut, torn, i, got, told(h), want, told(o))
				}
				if !o.down {
					continue
				}
				if i%2 == 0 { // opened ahead of the power, or with it
					d.Cut(-1)
				}
				h, o = open(t, d), openModel(1, p)
				if told(h) != told(o) {
					t.Fatalf("cut %d, torn %d, step %d: opened anew\n%s\nwant\n%s", cut, torn, i, told(h), told(o))
				}
				d.Cut(-1)
				p.cut = -1
			}
			if told(h) != told(o) {
				t.Fatalf("cut %d, torn %d: at the end\n%s\nwant\n%s", cut, torn, told(h), told(o))
			}
			writes = len(p.written)
		}
	}
	if writes < 15 {
		t.Errorf("only %d writes in the run", writes)
	}
}

// Promise 4.1: the power fails again and again at one place, each time with another number of bytes there, of longer and of shorter writes.
func TestTornOverTorn(t *testing.T) {
	for first := range 60 {
		for second := range 60 {
			h, d := named(t)
			put(t, h, 0, "in", 1, 1)
			commit(t, h, 0)
			d.Cut(0)
			h.Torn(first)
			checkErr(t, "Arrives", func() error {
				_, err := h.Arrives(2, 1, []api.Message{to1(2, 1, "in"), to1(6, 1, "none")})
				return err
			}(), api.ErrDevice)
			h = open(t, d)
			h.Torn(second)
			checkErr(t, "Unname", h.Unname("in"), api.ErrDevice)
			h = open(t, d)
			checkThere(t, h, "in", 1)
			checkArrived(t, h, 2, 0)
			d.Cut(-1)
			arrives(t, h, 2, 1, to1(2, 1, "in"))
			checkThere(t, open(t, d), "in", 1, 2)
		}
	}
}

// Promise 4.1: several Houses open of one disk: an elder one goes on as if it were alone, while no younger one wrote.
func TestElderGoesOn(t *testing.T) {
	h, d := named(t)
	put(t, h, 0, "in", 1, 1)
	for i := range 5 {
		young := open(t, d)
		put(t, young, 0, "in", 1, 4*i+1)
		put(t, young, 1, "far", 1, 4*i+5)
		d.Cut(0)
		young.Torn(7 * i)
		checkErr(t, "Commit", young.Commit(1), api.ErrDevice)
		d.Cut(-1)
		put(t, h, 1, "in", 2, 4*i+5)
		commit(t, h, 0)
		if h.Used() != 4+i {
			t.Errorf("Used = %d", h.Used())
		}
		h.Get(2, "in")
		ok(t, "Backout", h.Backout(1))
		ok(t, "Backout", h.Backout(2))
		put(t, h, 0, "in", 1, 4*i+9)
		ok(t, "Backout", h.Backout(0))
		h = checkAnew(t, h, d)
		put(t, h, 0, "in", 1, 4*i+5)
	}
	checkThere(t, h, "in", 1, 5, 9, 13, 17)
}

// Promise 4.1: the one that was opened last writes; an elder one tells what it has.
func TestYoungerWrites(t *testing.T) {
	h, d := named(t)
	put(t, h, 0, "in", 1, 1)
	elder := told(h)
	young := open(t, d)
	put(t, young, 0, "in", 5, 1)
	put(t, young, 0, "far", 5, 5)
	commit(t, young, 0)
	ok(t, "Unname", young.Unname("out"))
	if told(h) != elder {
		t.Errorf("the elder one:\n%s\nit was:\n%s", told(h), elder)
	}
	checkAnew(t, young, d)
}

// Promise 4.1: one that has not all that is written may not write: what is there stays.
func TestBehind(t *testing.T) {
	for _, torn := range []int{-1, 0, 9} {
		h, d, _ := ready(t)
		h.Torn(torn)
		young := open(t, d)
		ok(t, "Name", young.Name(local("young")))
		want := told(young)
		for _, power := range []int{-1, 0} {
			d.Cut(power)
			checkRefused(t, h, writers(h), api.ErrState)
			if now := told(open(t, d)); now != want {
				t.Errorf("opened anew:\n%s\nwant:\n%s", now, want)
			}
		}
		d.Cut(-1)
		ok(t, "Name", young.Name(local("younger")))
		checkAnew(t, young, d)
	}
}

// Promise 4.1: two disks have nothing in common, and a copy of a disk stands for itself.
func TestDisks(t *testing.T) {
	h, d := named(t)
	other := *d
	d.Cut(0)
	checkErr(t, "Unname", h.Unname("in"), api.ErrDevice)
	o := open(t, &other)
	ok(t, "Unname", o.Unname("in"))
	checkAnew(t, o, &other)
	d.Cut(-1)
	if got := open(t, d).Names(); len(got) != 3 {
		t.Errorf("Names = %v", got)
	}
	if got := open(t, new(house.Disk)).Names(); len(got) != 0 {
		t.Errorf("Names = %v", got)
	}
}

// P1: a disk that another house wrote is opened without harm, as it was written.
func TestOtherNumber(t *testing.T) {
	h, d, used := ready(t)
	commit(t, h, 1)
	arrives(t, h, 0, 1, to1(2, 1, "in"), to1(3, 1, "none"))
	for id := range api.MaxHouses {
		other := *d
		o, err := house.Open(id, &other)
		ok(t, "Open", err)
		if o.Used() != used+2 || !slices.Equal(o.Names(), h.Names()) || !slices.Equal(o.Kept(), h.Kept()) {
			t.Errorf("as house %d: %s", id, told(o))
		}
		for i, s := range run() {
			if i%3 == 0 {
				o.Put(0, "in", 1, "x")
			}
			s(o)
		}
		told(o)
	}
}
