package names_test

import (
	"errors"
	"fmt"
	"math"
	"slices"
	"strings"
	"testing"

	"waybill/api"
	"waybill/names"
)

// Names of the three kinds: a local one, one for another name, one for a queue of a house.
func here(s string) api.Name                { return api.Name{Name: s, House: -1} }
func other(s, to string) api.Name           { return api.Name{Name: s, To: to, House: -1} }
func away(s, to string, house int) api.Name { return api.Name{Name: s, To: to, House: house} }

// of are Names with these in them, set in their order.
func of(t *testing.T, l ...api.Name) *names.Names {
	t.Helper()
	n := new(names.Names)
	for _, x := range l {
		if err := n.Set(x); err != nil {
			t.Fatalf("Set(%v): %v", x, err)
		}
	}
	return n
}

// full are MaxNames local names, n00 to n19.
func full(t *testing.T) *names.Names {
	t.Helper()
	var l []api.Name
	for i := range api.MaxNames {
		l = append(l, here(fmt.Sprintf("n%02d", i)))
	}
	return of(t, l...)
}

// checkErr holds an error against the one that is asked for: an Errno without a place (P3).
func checkErr(t *testing.T, what string, err error, want api.Errno) {
	t.Helper()
	var at *api.At
	if api.Tell(err) != want || errors.As(err, &at) {
		t.Errorf("%s: %v, want %v", what, err, want)
	}
}

func checkAll(t *testing.T, n *names.Names, want ...api.Name) {
	t.Helper()
	if got := n.All(); !slices.Equal(got, want) {
		t.Errorf("All = %v, want %v", got, want)
	}
}

func checkResolve(t *testing.T, n *names.Names, s, queue string, house int, want api.Errno) {
	t.Helper()
	q, h, err := n.Resolve(s)
	if q != queue || h != house {
		t.Errorf("Resolve(%q) = %q, %d; want %q, %d", s, q, h, queue, house)
	}
	checkErr(t, "Resolve of "+s, err, want)
}

// Promise 2.1: Right, kind by kind, and each field's bounds.
func TestRight(t *testing.T) {
	long, longer := strings.Repeat("z", api.MaxWord), strings.Repeat("z", api.MaxWord+1)
	for _, c := range []struct {
		x    api.Name
		want bool
	}{
		{here("in"), true},
		{here("0"), true},
		{here(long), true},
		{here(api.Dead), true},
		{other("in", "out"), true},
		{other("in", "in"), true},
		{other(long, long), true},
		{away("in", "out", 0), true},
		{away("in", "in", 0), true},
		{away("in", api.Dead, api.MaxHouses-1), true},
		{away("in", long, 1), true},

		{api.Name{}, false},
		{here(""), false},
		{here("A"), false},
		{here("a b"), false},
		{here("é"), false},
		{here("a\x00"), false},
		{here(longer), false},
		{other("", "out"), false},
		{other("A", "out"), false},
		{other(longer, "out"), false},
		{other("in", "A"), false},
		{other("in", " "), false},
		{other("in", longer), false},
		{away("", "out", 0), false},
		{away("I", "out", 0), false},
		{away("in", "", 0), false},
		{away("in", "", api.MaxHouses-1), false},
		{away("in", "Out", 0), false},
		{away("in", longer, 0), false},
		{away("in", "out", api.MaxHouses), false},
		{away("in", "", api.MaxHouses), false},
		{away("in", "out", -2), false},
		{away("in", "", -2), false},
		{away("in", "out", math.MaxInt), false},
		{away("in", "out", math.MinInt), false},
		{away("in", "", math.MinInt), false},
	} {
		if got := names.Right(c.x); got != c.want {
			t.Errorf("Right(%v) = %v", c.x, got)
		}
		n, want := new(names.Names), api.ErrArg
		if c.want {
			want = api.OK
		}
		checkErr(t, fmt.Sprintf("Set(%v)", c.x), n.Set(c.x), want)
		if got := n.All(); c.want != slices.Equal(got, []api.Name{c.x}) || !c.want && len(got) > 0 {
			t.Errorf("Set(%v): All = %v", c.x, got)
		}
	}
}

// Promise 2.1: the zero value has none.
func TestNone(t *testing.T) {
	var n names.Names
	checkAll(t, &n)
	for _, s := range []string{"", "in", "A", api.Dead, strings.Repeat("z", 1000)} {
		if n.Local(s) {
			t.Errorf("Local(%.20q)", s)
		}
		checkResolve(t, &n, s, "", 0, api.ErrMissing)
		checkErr(t, "Drop", n.Drop(s), api.ErrMissing)
	}
	checkAll(t, &n)
}

// Promise 2.1: All is in the order of bytes, however they were set.
func TestOrder(t *testing.T) {
	want := []api.Name{
		here("0"), other("00", "a"), away("1", "z", 3), here("10"), here("9"), here("a"), here("a0"),
		here("aa"), away("ab", "aa", 0), here("b"), other("z", "0"), here("zz"),
	}
	for turn := range want {
		l := slices.Concat(want[turn:], want[:turn])
		checkAll(t, of(t, l...), want...)
		slices.Reverse(l)
		checkAll(t, of(t, l...), want...)
	}
}

// Promise 2.1: a name set again stands for the new thing alone, whatever kind it was and is.
func TestSetAgain(t *testing.T) {
	kinds := []api.Name{here("m"), other("m", "a"), other("m", "z"), away("m", "q", 0), away("m", "r", 2)}
	for _, x := range kinds {
		for _, y := range kinds {
			n := of(t, here("a"), x, here("z"), y)
			checkAll(t, n, here("a"), y, here("z"))
			if n.Local("m") != (y == here("m")) {
				t.Errorf("%v, then %v: Local = %v", x, y, n.Local("m"))
			}
			queue, house := y.To, y.House
			if y == here("m") {
				queue = "m"
			}
			checkResolve(t, n, "m", queue, house, api.OK)
		}
	}
}

// Promise 2.1: the twentieth name has room, the one behind it has none, whatever it is called; one of a Name that is there is set yet.
func TestFull(t *testing.T) {
	n := full(t)
	was := n.All()
	if len(was) != api.MaxNames {
		t.Fatalf("%d names: %v", len(was), was)
	}
	for _, s := range []string{"a", "n05a", "z"} {
		checkErr(t, "a name too many", n.Set(here(s)), api.ErrFull)
		checkErr(t, "a name too many", n.Set(other(s, "n00")), api.ErrFull)
		checkErr(t, "one too many that may not be", n.Set(away(s, "", 0)), api.ErrArg)
		checkAll(t, n, was...)
	}
	for i := range was {
		was[i] = away(was[i].Name, "q", i%api.MaxHouses)
		checkErr(t, "in its place", n.Set(was[i]), api.OK)
		checkAll(t, n, was...)
	}
	checkErr(t, "Drop", n.Drop("n07"), api.OK)
	checkErr(t, "where one went", n.Set(here("z")), api.OK)
	checkErr(t, "a name too many", n.Set(here("n07")), api.ErrFull)
	checkAll(t, n, append(slices.Delete(was, 7, 8), here("z"))...)
}

// Promise 2.1: what is dropped is gone, and nothing else; it may come back.
func TestDrop(t *testing.T) {
	for i := range api.MaxNames {
		n := full(t)
		l := n.All()
		s := l[i].Name
		checkErr(t, "Drop "+s, n.Drop(s), api.OK)
		checkAll(t, n, slices.Delete(slices.Clone(l), i, i+1)...)
		if n.Local(s) {
			t.Errorf("%s is local yet", s)
		}
		checkResolve(t, n, s, "", 0, api.ErrMissing)
		checkErr(t, "Drop again "+s, n.Drop(s), api.ErrMissing)
		checkErr(t, "Set again "+s, n.Set(l[i]), api.OK)
		checkAll(t, n, l...)
	}
	n := full(t)
	for _, s := range []string{"", "n", "n0", "n000", "N00", "a", "z", "n00 "} {
		checkErr(t, "Drop "+s, n.Drop(s), api.ErrMissing)
	}
	for _, x := range n.All() {
		checkErr(t, "Drop "+x.Name, n.Drop(x.Name), api.OK)
	}
	checkAll(t, n)
}

// Promise 2.1: local is what the name itself is, not what it leads to.
func TestLocal(t *testing.T) {
	n := of(t, here("in"), other("a", "in"), away("b", "in", 0), away("c", "c", 3))
	for s, want := range map[string]bool{"in": true, "a": false, "b": false, "c": false, "i": false, "inn": false, "": false, "IN": false} {
		if got := n.Local(s); got != want {
			t.Errorf("Local(%q) = %v", s, got)
		}
	}
}

// Promise 2.1: name by name; a queue of a house is the end, though there be a name such as it is called.
func TestResolve(t *testing.T) {
	n := of(t,
		here("in"), other("a", "in"), other("b", "a"), other("c", "b"),
		away("far", "in", 2), other("d", "far"), away("far0", "a", 0), other("e", "far0"), away("self", "self", 3),
	)
	for _, s := range []string{"in", "a", "b", "c"} {
		checkResolve(t, n, s, "in", -1, api.OK)
	}
	checkResolve(t, n, "far", "in", 2, api.OK)
	checkResolve(t, n, "d", "in", 2, api.OK)
	checkResolve(t, n, "far0", "a", 0, api.OK)
	checkResolve(t, n, "e", "a", 0, api.OK)
	checkResolve(t, n, "self", "self", 3, api.OK)
	for _, s := range []string{"", "i", "inn", "In", "z", api.Dead} {
		checkResolve(t, n, s, "", 0, api.ErrMissing)
	}
}

// Promise 2.1: a name that leads to none, and those that lead to it.
func TestResolveMissing(t *testing.T) {
	n := of(t, other("a", "b"), other("b", "c"), other("c", "none"))
	for _, s := range []string{"a", "b", "c", "none"} {
		checkResolve(t, n, s, "", 0, api.ErrMissing)
	}
	checkErr(t, "Set", n.Set(here("none")), api.OK)
	checkResolve(t, n, "a", "none", -1, api.OK)
	checkErr(t, "Drop", n.Drop("b"), api.OK)
	checkResolve(t, n, "a", "", 0, api.ErrMissing)
	checkResolve(t, n, "c", "none", -1, api.OK)
}

// Promise 2.1: names that go round, and names that lead to such.
func TestResolveCycle(t *testing.T) {
	n := of(t, other("self", "self"), other("a", "b"), other("b", "a"), other("x", "y"), other("y", "z"), other("z", "x"),
		other("to1", "self"), other("to2", "to1"), other("toa", "a"), here("in"), other("toin", "in"))
	for _, s := range []string{"self", "a", "b", "x", "y", "z", "to1", "to2", "toa"} {
		checkResolve(t, n, s, "", 0, api.ErrCycle)
	}
	checkResolve(t, n, "toin", "in", -1, api.OK)
	checkErr(t, "Set", n.Set(away("a", "q", 1)), api.OK)
	for _, s := range []string{"a", "b", "toa"} {
		checkResolve(t, n, s, "q", 1, api.OK)
	}
	checkErr(t, "Drop", n.Drop("y"), api.OK)
	for _, s := range []string{"x", "y", "z"} {
		checkResolve(t, n, s, "", 0, api.ErrMissing)
	}
}

// Promise 2.1: the longest way there can be, each name once, to each end there is.
func TestResolveLong(t *testing.T) {
	for _, c := range []struct {
		last  api.Name
		queue string
		house int
		want  api.Errno
	}{
		{here("n19"), "n19", -1, api.OK},
		{away("n19", "n00", 1), "n00", 1, api.OK},
		{other("n19", "none"), "", 0, api.ErrMissing},
		{other("n19", "n00"), "", 0, api.ErrCycle},
		{other("n19", "n18"), "", 0, api.ErrCycle},
		{other("n19", "n19"), "", 0, api.ErrCycle},
	} {
		n := full(t)
		for i := range api.MaxNames - 1 {
			checkErr(t, "Set", n.Set(other(fmt.Sprintf("n%02d", i), fmt.Sprintf("n%02d", i+1))), api.OK)
		}
		checkErr(t, "Set", n.Set(c.last), api.OK)
		for i := range api.MaxNames {
			checkResolve(t, n, fmt.Sprintf("n%02d", i), c.queue, c.house, c.want)
		}
	}
}

// P4: what All tells is the caller's, and two Names have nothing in common, though one be a copy.
func TestMemory(t *testing.T) {
	n := of(t, here("a"), other("b", "a"))
	l := n.All()
	l[0] = away("x", "x", 0)
	_ = append(l[:1], here("y"))
	checkAll(t, n, here("a"), other("b", "a"))

	twin := *n
	checkErr(t, "Drop", twin.Drop("a"), api.OK)
	checkErr(t, "Set", twin.Set(here("b")), api.OK)
	checkAll(t, &twin, here("b"))
	checkAll(t, n, here("a"), other("b", "a"))
}

// P2: a call that is told an error changes nothing.
func TestErrorsChangeNothing(t *testing.T) {
	n := of(t, here("a"), other("b", "c"), other("c", "b"))
	checkErr(t, "Set", n.Set(away("a", "q", api.MaxHouses)), api.ErrArg)
	checkErr(t, "Set", n.Set(away("a", "", 0)), api.ErrArg)
	checkErr(t, "Drop", n.Drop("d"), api.ErrMissing)
	checkResolve(t, n, "b", "", 0, api.ErrCycle)
	checkResolve(t, n, "d", "", 0, api.ErrMissing)
	checkAll(t, n, here("a"), other("b", "c"), other("c", "b"))
}
