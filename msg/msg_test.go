package msg_test

import (
	"errors"
	"math"
	"strings"
	"testing"

	"waybill/api"
	"waybill/msg"
	"waybill/plain"
)

// plainOne is a message that is right, for tests that spoil one field of it.
func plainOne() api.Message {
	return api.Message{Id: 7, Priority: 3, Body: "hello", Queue: "in", House: 1}
}

// Promise 1.1: Word and Body differ in their longest text alone.
func TestWordAndBody(t *testing.T) {
	for _, c := range []struct {
		text       string
		word, body bool
	}{
		{"a", true, true},
		{"z", true, true},
		{"0", true, true},
		{"9", true, true},
		{"in", true, true},
		{"0123", true, true},
		{"dead", true, true},
		{strings.Repeat("z", api.MaxWord), true, true},
		{strings.Repeat("z", api.MaxWord+1), false, true},
		{strings.Repeat("0", api.MaxBody), false, true},
		{strings.Repeat("0", api.MaxBody+1), false, false},
		{strings.Repeat("a", 1000), false, false},
		{"", false, false},
		{"A", false, false},
		{"inBox", false, false},
		{" in", false, false},
		{"in ", false, false},
		{"a b", false, false},
		{"a+b", false, false},
		{"a-b", false, false},
		{"a_b", false, false},
		{"a\x00", false, false},
		{"a\n", false, false},
		{"é", false, false},
		{"a\xff", false, false},
	} {
		if got := msg.Word(c.text); got != c.word {
			t.Errorf("Word(%q) = %v", c.text, got)
		}
		if got := msg.Body(c.text); got != c.body {
			t.Errorf("Body(%q) = %v", c.text, got)
		}
	}
}

// Promise 1.1: of all bytes just the letters a to z and 0 to 9.
func TestEachByte(t *testing.T) {
	const letters = "abcdefghijklmnopqrstuvwxyz0123456789"
	for c := range 256 {
		for _, s := range []string{string([]byte{byte(c)}), string([]byte{'a', byte(c)}), string([]byte{byte(c), 'a'})} {
			want := strings.IndexByte(letters, byte(c)) >= 0
			if msg.Word(s) != want || msg.Body(s) != want {
				t.Errorf("%q: Word %v, Body %v, want %v", s, msg.Word(s), msg.Body(s), want)
			}
		}
	}
}

// Promise 1.1: each field has its bounds, and each of them counts.
func TestRight(t *testing.T) {
	for _, c := range []struct {
		what  string
		spoil func(m *api.Message)
		want  bool
	}{
		{"as it is", func(m *api.Message) {}, true},
		{"least id", func(m *api.Message) { m.Id = 0 }, true},
		{"greatest id", func(m *api.Message) { m.Id = api.MaxId }, true},
		{"id below", func(m *api.Message) { m.Id = -1 }, false},
		{"id above", func(m *api.Message) { m.Id = api.MaxId + 1 }, false},
		{"id far below", func(m *api.Message) { m.Id = math.MinInt }, false},
		{"id far above", func(m *api.Message) { m.Id = math.MaxInt }, false},
		{"least priority", func(m *api.Message) { m.Priority = 0 }, true},
		{"greatest priority", func(m *api.Message) { m.Priority = api.MaxPriority }, true},
		{"priority below", func(m *api.Message) { m.Priority = -1 }, false},
		{"priority above", func(m *api.Message) { m.Priority = api.MaxPriority + 1 }, false},
		{"longest body", func(m *api.Message) { m.Body = strings.Repeat("x", api.MaxBody) }, true},
		{"body too long", func(m *api.Message) { m.Body = strings.Repeat("x", api.MaxBody+1) }, false},
		{"no body", func(m *api.Message) { m.Body = "" }, false},
		{"no such body", func(m *api.Message) { m.Body = "Hello" }, false},
		{"longest queue", func(m *api.Message) { m.Queue = strings.Repeat("x", api.MaxWord) }, true},
		{"queue too long", func(m *api.Message) { m.Queue = strings.Repeat("x", api.MaxWord+1) }, false},
		{"no queue", func(m *api.Message) { m.Queue = "" }, false},
		{"no such queue", func(m *api.Message) { m.Queue = "in box" }, false},
		{"the queue dead", func(m *api.Message) { m.Queue = api.Dead }, true},
		{"first house", func(m *api.Message) { m.House = 0 }, true},
		{"last house", func(m *api.Message) { m.House = api.MaxHouses - 1 }, true},
		{"house below", func(m *api.Message) { m.House = -1 }, false},
		{"house above", func(m *api.Message) { m.House = api.MaxHouses }, false},
	} {
		m := plainOne()
		c.spoil(&m)
		if got := msg.Right(m); got != c.want {
			t.Errorf("%s: Right(%v) = %v", c.what, m, got)
		}
	}
	if msg.Right(api.Message{}) {
		t.Error("the zero message is right")
	}
}

// sign takes Compare's answer down to what is promised of it.
func sign(n int) int {
	switch {
	case n < 0:
		return -1
	case n > 0:
		return 1
	}
	return 0
}

// Promise 1.1: priority first, the greater one ahead; then the place in line.
func TestCompare(t *testing.T) {
	for _, c := range []struct{ p, q, x, y, want int }{
		{5, 2, 0, 0, -1},
		{2, 5, 0, 0, 1},
		{5, 2, 9, 1, -1},
		{2, 5, 1, 9, 1},
		{api.MaxPriority, 0, api.MaxId, 0, -1},
		{0, api.MaxPriority, 0, api.MaxId, 1},
		{3, 3, 1, 2, -1},
		{3, 3, 2, 1, 1},
		{3, 3, 0, api.MaxId, -1},
		{3, 3, api.MaxId, 0, 1},
		{3, 3, 4, 4, 0},
		{0, 0, 0, 0, 0},
	} {
		a, b := plainOne(), plainOne()
		a.Priority, b.Priority = c.p, c.q
		if got := sign(msg.Compare(a, b, c.x, c.y)); got != c.want {
			t.Errorf("priorities %d and %d, places %d and %d: %d, want %d", c.p, c.q, c.x, c.y, got, c.want)
		}
	}
}

// Promise 1.1: nothing else of a message counts in its order.
func TestCompareOtherFields(t *testing.T) {
	a := api.Message{Id: 0, Priority: 4, Body: "a", Queue: "a", House: 0}
	b := api.Message{Id: api.MaxId, Priority: 4, Body: "z", Queue: "z", House: 3}
	for _, c := range []struct{ x, y, want int }{{5, 5, 0}, {4, 5, -1}, {5, 4, 1}} {
		if got := sign(msg.Compare(a, b, c.x, c.y)); got != c.want {
			t.Errorf("places %d and %d: %d, want %d", c.x, c.y, got, c.want)
		}
		if got := sign(msg.Compare(b, a, c.x, c.y)); got != c.want {
			t.Errorf("the other way round, places %d and %d: %d, want %d", c.x, c.y, got, c.want)
		}
	}
}

// texts are lists of messages, and how they are written.
var texts = []struct {
	list []api.Message
	text string
}{
	{nil, ""},
	{[]api.Message{{Id: 7, Priority: 3, Body: "hello", Queue: "in", House: 1}}, "7 3 hello in 1"},
	{[]api.Message{{Id: 0, Priority: 0, Body: "0", Queue: "0", House: 0}}, "0 0 0 0 0"},
	{[]api.Message{{Id: 5, Priority: 1, Body: "007", Queue: "00", House: 2}}, "5 1 007 00 2"},
	{
		[]api.Message{{Id: api.MaxId, Priority: api.MaxPriority, Body: "0123456789ab", Queue: "abcdefgh", House: api.MaxHouses - 1}},
		"1099511627776 9 0123456789ab abcdefgh 3",
	},
	{
		[]api.Message{
			{Id: 9, Priority: 0, Body: "b", Queue: "out", House: 0},
			{Id: 1, Priority: 9, Body: "a", Queue: "in", House: 3},
		},
		"9 0 b out 0+1 9 a in 3",
	},
	{
		[]api.Message{
			{Id: 4, Priority: 2, Body: "x", Queue: "q", House: 1},
			{Id: 4, Priority: 2, Body: "x", Queue: "q", House: 1},
			{Id: 10, Priority: 2, Body: "y", Queue: "dead", House: 1},
		},
		"4 2 x q 1+4 2 x q 1+10 2 y dead 1",
	},
}

// Promise 1.2: what is written, and that it is read back as it was.
func TestWriteAndRead(t *testing.T) {
	for _, c := range texts {
		if got, err := msg.Write(c.list); got != c.text || err != nil {
			t.Errorf("Write(%v) = %q, %v; want %q", c.list, got, err, c.text)
		}
		if got, err := msg.Read(c.text); !plain.Same(got, c.list) || err != nil {
			t.Errorf("Read(%q) = %v, %v; want %v", c.text, got, err, c.list)
		}
	}
	if got, err := msg.Write([]api.Message{}); got != "" || err != nil {
		t.Errorf("Write of an empty list = %q, %v", got, err)
	}
}

// Promise 1.2: the first message that is not right is told, by its number in the list.
func TestWriteWrong(t *testing.T) {
	right := plainOne()
	for _, spoil := range []func(m *api.Message){
		func(m *api.Message) { m.Id = -1 },
		func(m *api.Message) { m.Id = api.MaxId + 1 },
		func(m *api.Message) { m.Priority = -1 },
		func(m *api.Message) { m.Priority = api.MaxPriority + 1 },
		func(m *api.Message) { m.Body = "" },
		func(m *api.Message) { m.Body = "a+b" },
		func(m *api.Message) { m.Queue = "" },
		func(m *api.Message) { m.Queue = "a b" },
		func(m *api.Message) { m.House = -1 },
		func(m *api.Message) { m.House = api.MaxHouses },
	} {
		wrong := plainOne()
		spoil(&wrong)
		for _, c := range []struct {
			list  []api.Message
			place int
		}{
			{[]api.Message{wrong}, 0},
			{[]api.Message{wrong, right}, 0},
			{[]api.Message{right, wrong}, 1},
			{[]api.Message{right, right, wrong, right, wrong}, 2},
			{[]api.Message{right, {}, wrong}, 1},
		} {
			text, err := msg.Write(c.list)
			if e, place := plain.Place(err); text != "" || e != api.ErrArg || place != c.place {
				t.Errorf("Write(%v) = %q, error %d at %d; want error %d at %d", c.list, text, e, place, api.ErrArg, c.place)
			}
		}
	}
}

// Promise 1.2: a text that Write does not tell is of another form; there is no place in that error (P3), and no list (P2).
func TestReadWrong(t *testing.T) {
	for _, s := range []string{
		" ", "+", "++", "x", "7", "7 3 hello in", "7 3 hello in 1 1", "7 3 hello in 1 ", " 7 3 hello in 1",
		"7  3 hello in 1", "7 3  hello in 1", "7 3 hello  1", "7 3  in 1", "7\t3 hello in 1", "7 3 hello in 1\n",
		"7 3 hello in 1+", "+7 3 hello in 1", "7 3 hello in 1++8 3 hello in 1", "7 3 hello in 1 + 8 3 hello in 1",
		"7 3 hello in 1,8 3 hello in 1", "7 3 hello in 1+x", "x+7 3 hello in 1", "7 3 hello in 1+8 3 hello in 4",
		"07 3 hello in 1", "7 03 hello in 1", "7 3 hello in 01", "00 3 hello in 1", "7 3 hello in 00",
		"-7 3 hello in 1", "-0 3 hello in 1", "7 -0 hello in 1", "7 3 hello in -0", "7 3 hello in -1", "7 -1 hello in 1",
		"+7 +3 hello in 1", "7 3 hello in +1", "1_0 3 hello in 1", "0x7 3 hello in 1", "7.0 3 hello in 1", "1e1 3 hello in 1",
		"a 3 hello in 1", "7 a hello in 1", "7 3 hello in a", "\u0667 3 hello in 1",
		"1099511627777 3 hello in 1", "7 10 hello in 1", "7 3 hello in 4",
		"9223372036854775807 3 hello in 1", "9223372036854775808 3 hello in 1", "18446744073709551623 3 hello in 1",
		"7 18446744073709551619 hello in 1", "7 3 hello in 18446744073709551617",
		"7 3 Hello in 1", "7 3 hello In 1", "7 3 h-o in 1", "7 3 hello i_n 1", "7 3 h\xffo in 1", "7 3 hello in\x00 1",
		"7 3 0123456789abc in 1", "7 3 hello abcdefghi 1",
		strings.Repeat("9", 10000), strings.Repeat(" ", 10000), strings.Repeat("+", 10000),
	} {
		l, err := msg.Read(s)
		if e, place := plain.Place(err); len(l) != 0 || e != api.ErrForm || place != -1 {
			t.Errorf("Read(%.60q) = %v, error %d at %d; want error %d", s, l, e, place, api.ErrForm)
		}
		var at *api.At
		if errors.As(err, &at) {
			t.Errorf("Read(%.60q): an At", s)
		}
	}
}

// checkRead holds Read against its promise alone: Write tells just that text of what was read.
func checkRead(t *testing.T, s string) {
	l, err := msg.Read(s)
	if err != nil {
		if len(l) != 0 || api.Tell(err) != api.ErrForm {
			t.Fatalf("Read(%q) = %v, %v", s, l, err)
		}
		return
	}
	if back, err := msg.Write(l); back != s || err != nil {
		t.Fatalf("Read(%q) = %v, of which Write tells %q, %v", s, l, back, err)
	}
}

// Promise 1.2: whatever single byte is changed, left out or put in.
func TestReadChanged(t *testing.T) {
	for _, c := range texts {
		for i := range len(c.text) + 1 {
			for b := range 256 {
				checkRead(t, c.text[:i]+string([]byte{byte(b)})+c.text[i:])
				if i < len(c.text) {
					checkRead(t, c.text[:i]+string([]byte{byte(b)})+c.text[i+1:])
				}
			}
			if i < len(c.text) {
				checkRead(t, c.text[:i]+c.text[i+1:])
			}
		}
	}
}

// Promise 1.2: a long list goes through, too, each message in its place.
func TestLong(t *testing.T) {
	var l []api.Message
	for i := range 50000 {
		l = append(l, api.Message{Id: i, Priority: i % 10, Body: "b", Queue: "q", House: i % api.MaxHouses})
	}
	s, err := msg.Write(l)
	if err != nil {
		t.Fatal(err)
	}
	if got, err := msg.Read(s); err != nil || !plain.Same(got, l) {
		t.Errorf("%d of %d messages came back, error %v", len(got), len(l), err)
	}
	l[len(l)-1].House = api.MaxHouses
	if _, err := msg.Write(l); api.Tell(err) != api.ErrArg {
		t.Errorf("a wrong one at the end: %v", err)
	} else if _, place := plain.Place(err); place != len(l)-1 {
		t.Errorf("a wrong one at the end: told at %d", place)
	}
	if _, err := msg.Read(s + "+"); api.Tell(err) != api.ErrForm {
		t.Errorf("a + at the end: %v", err)
	}
}

// P4: Write leaves the list as it is, and what stands behind its length; what Read tells is the caller's.
func TestMemory(t *testing.T) {
	room := []api.Message{plainOne(), plainOne(), {Body: "kept"}}
	was := append([]api.Message(nil), room...)
	if s, err := msg.Write(room[:2:3]); s != "7 3 hello in 1+7 3 hello in 1" || err != nil {
		t.Errorf("Write = %q, %v", s, err)
	}
	if !plain.Same(room, was) {
		t.Errorf("Write changed its list: %v", room)
	}
	a, _ := msg.Read("7 3 hello in 1")
	b, _ := msg.Read("7 3 hello in 1")
	a[0].Body = "other"
	if c, _ := msg.Read("7 3 hello in 1"); b[0] != plainOne() || c[0] != plainOne() {
		t.Errorf("lists share memory: %v, %v", b, c)
	}
	_, e := msg.Write([]api.Message{{}})
	var at *api.At
	if !errors.As(e, &at) {
		t.Fatal("no At")
	}
	at.Place = 99
	if _, place := plain.Place(func() error { _, err := msg.Write([]api.Message{{}}); return err }()); place != 0 {
		t.Errorf("errors share memory: place %d", place)
	}
}

// P1: messages that are not right are compared, too, without harm.
func TestCompareAnything(t *testing.T) {
	for _, p := range []int{math.MinInt, -1, 0, math.MaxInt} {
		for _, x := range []int{math.MinInt, -1, 0, math.MaxInt} {
			msg.Compare(api.Message{Priority: p}, api.Message{Priority: -p}, x, -x)
		}
	}
}
