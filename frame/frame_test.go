package frame_test

import (
	"errors"
	"fmt"
	"math"
	"regexp"
	"slices"
	"strconv"
	"strings"
	"testing"

	"waybill/api"
	"waybill/frame"
)

// one is a message that is right.
func one(id int) api.Message {
	return api.Message{Id: id, Priority: 3, Body: "hello", Queue: "in", House: 1}
}

// some are so many messages that are right.
func some(n int) []api.Message {
	var l []api.Message
	for i := range n {
		l = append(l, one(7+i))
	}
	return l
}

func same(f, g frame.Frame) bool {
	return f.From == g.From && f.Number == g.Number && f.Ack == g.Ack && slices.Equal(f.List, g.List)
}

// plainly says whether an error is that Errno, without a place (P3).
func plainly(err error, want api.Errno) bool {
	var at *api.At
	return api.Tell(err) == want && !errors.As(err, &at)
}

func checkWrong(t *testing.T, what string, f frame.Frame) {
	t.Helper()
	if s, err := frame.Write(f); s != "" || !plainly(err, api.ErrArg) {
		t.Errorf("%s: Write(%v) = %q, %v", what, f, s, err)
	}
}

func checkNoFrame(t *testing.T, s string) {
	t.Helper()
	if f, err := frame.Read(s); !same(f, frame.Frame{}) || !plainly(err, api.ErrForm) {
		t.Errorf("Read(%.200q) = %v, %v", s, f, err)
	}
}

// written are frames, and their texts.
func written() map[string]frame.Frame {
	longest := api.Message{Id: api.MaxId, Priority: api.MaxPriority, Body: "0123456789ab", Queue: "abcdefgh", House: api.MaxHouses - 1}
	return map[string]frame.Frame{
		"a:1:3:":                     {From: 1, Number: 3, Ack: true},
		"a:0:0:":                     {Ack: true},
		"a:3:1099511627776:":         {From: 3, Number: api.MaxId, Ack: true},
		"a:2:10:":                    {From: 2, Number: 10, Ack: true, List: []api.Message{}},
		"b:1:3:7 3 hello in 1":       {From: 1, Number: 3, List: some(1)},
		"b:0:0:0 0 0 0 0":            {List: []api.Message{{Body: "0", Queue: "0"}}},
		"b:2:5:9 3 a in 1+8 3 b b 0": {From: 2, Number: 5, List: []api.Message{{Id: 9, Priority: 3, Body: "a", Queue: "in", House: 1}, {Id: 8, Priority: 3, Body: "b", Queue: "b"}}},
		"b:3:1099511627776:1099511627776 9 0123456789ab abcdefgh 3+7 3 hello in 1+7 3 hello in 1": {From: 3, Number: api.MaxId, List: []api.Message{longest, one(7), one(7)}},
	}
}

// Promise 5.1: what Write tells, and that Read reads just that.
func TestWriteAndRead(t *testing.T) {
	for want, f := range written() {
		if s, err := frame.Write(f); s != want || err != nil {
			t.Errorf("Write(%v) = %q, %v, want %q", f, s, err, want)
		}
		if g, err := frame.Read(want); !same(g, f) || err != nil {
			t.Errorf("Read(%q) = %v, %v, want %v", want, g, err, f)
		}
	}
}

// Promise 5.1: From and Number have their bounds, of an Ack and of a batch.
func TestBounds(t *testing.T) {
	for _, ack := range []bool{true, false} {
		f := frame.Frame{From: 1, Number: 3, Ack: ack}
		if !ack {
			f.List = some(1)
		}
		for from, ok := range map[int]bool{math.MinInt: false, -1: false, 0: true, 3: true, 4: false, math.MaxInt: false} {
			checkBound(t, frame.Frame{From: from, Number: f.Number, Ack: ack, List: f.List}, ok)
		}
		for number, ok := range map[int]bool{math.MinInt: false, -1: false, 0: true, api.MaxId: true, api.MaxId + 1: false, math.MaxInt: false} {
			checkBound(t, frame.Frame{From: f.From, Number: number, Ack: ack, List: f.List}, ok)
		}
	}
}

func checkBound(t *testing.T, f frame.Frame, ok bool) {
	t.Helper()
	if !ok {
		checkWrong(t, "bounds", f)
		return
	}
	s, err := frame.Write(f)
	if err != nil {
		t.Errorf("Write(%v): %v", f, err)
	}
	if g, err := frame.Read(s); !same(f, g) || err != nil {
		t.Errorf("Read(%q) = %v, %v", s, g, err)
	}
}

// Promise 5.1: an Ack has no messages, a batch has 1 to MaxBatch.
func TestHowManyMessages(t *testing.T) {
	for n := range 3 * api.MaxBatch {
		checkBound(t, frame.Frame{From: 1, Number: 3, List: some(n)}, n >= 1 && n <= api.MaxBatch)
		checkBound(t, frame.Frame{From: 1, Number: 3, Ack: true, List: some(n)}, n == 0)
	}
	checkWrong(t, "an empty list", frame.Frame{From: 1, Number: 3, List: []api.Message{}})
	checkWrong(t, "the zero frame", frame.Frame{})
	checkWrong(t, "too many", frame.Frame{From: 1, Number: 3, List: make([]api.Message, 100_000)})
}

// Promise 5.1: each message is right, wherever it stands; no place is told.
func TestMessagesThatAreNotRight(t *testing.T) {
	for what, spoil := range map[string]func(m *api.Message){
		"id below":       func(m *api.Message) { m.Id = -1 },
		"id above":       func(m *api.Message) { m.Id = api.MaxId + 1 },
		"priority below": func(m *api.Message) { m.Priority = -1 },
		"priority above": func(m *api.Message) { m.Priority = api.MaxPriority + 1 },
		"no body":        func(m *api.Message) { m.Body = "" },
		"body too long":  func(m *api.Message) { m.Body = strings.Repeat("x", api.MaxBody+1) },
		"body of marks":  func(m *api.Message) { m.Body = "a:b" },
		"no queue":       func(m *api.Message) { m.Queue = "" },
		"queue too long": func(m *api.Message) { m.Queue = strings.Repeat("x", api.MaxWord+1) },
		"queue of marks": func(m *api.Message) { m.Queue = "a+b" },
		"house below":    func(m *api.Message) { m.House = -1 },
		"house above":    func(m *api.Message) { m.House = api.MaxHouses },
	} {
		for n := 1; n <= api.MaxBatch; n++ {
			for i := range n {
				l := some(n)
				spoil(&l[i])
				checkWrong(t, what, frame.Frame{From: 1, Number: 3, List: l})
				checkWrong(t, what, frame.Frame{From: 1, Number: 3, Ack: true, List: l})
			}
		}
	}
}

// Promise 5.1: texts that are nearly frames.
func TestNearlyFrames(t *testing.T) {
	for _, s := range []string{
		"", "a", "b", ":", ":::", "a:", "a:1", "a:1:", "a:1:3", "1:3:", ":1:3:", "a::3:", "a:1::", "b:1:3:", "b:1:3",
		"a:1:3::", "a:1:3: ", " a:1:3:", "a :1:3:", "a: 1:3:", "a:1 :3:", "a:1: 3:", "a:1:3\n:", "a:1:3:\n", "a:1:3:\x00",
		"A:1:3:", "B:1:3:7 3 hello in 1", "c:1:3:", "ab:1:3:", "aa:1:3:", "b:1:3:a:1:3:", "a:1:3:a:1:3:",
		"a:4:3:", "a:-1:3:", "a:-0:3:", "a:+1:3:", "a:01:3:", "a:1:03:", "a:1:+3:", "a:1:-3:", "a:1:-0:", "a:1:00:", "a:0x1:3:", "a:1:3.0:", "a:1:1e1:", "a:1:1_0:",
		"a:1:1099511627777:", "a:1:9223372036854775808:", "a:1:99999999999999999999999:", "a:18446744073709551617:3:",
		"a:1:3:7 3 hello in 1", "b:1:3:7 3 hello in 1:", "b:1:3:+7 3 hello in 1", "b:1:3:7 3 hello in 1+", "b:1:3:7 3 hello in 1++7 3 hello in 1",
		"b:1:3:7 3 hello in", "b:1:3:7 3 hello in 1 1", "b:1:3:7 3  hello in 1", "b:1:3: 7 3 hello in 1", "b:1:3:7 3 hello in 1 ", "b:1:3:07 3 hello in 1",
		"b:1:3:7 10 hello in 1", "b:1:3:7 3 Hello in 1", "b:1:3:7 3 hello in 4", "b:1:3:7 3 hello in -1", "b:1:3:1099511627777 3 hello in 1",
		"b:1:3:7 3 0123456789abc in 1", "b:1:3:7 3 hello abcdefghi 1",
		"b:1:3:1 1 a b 1+2 1 a b 1+3 1 a b 1+4 1 a b 1", "b:4:3:7 3 hello in 1", "b:1:1099511627777:7 3 hello in 1",
		"7 3 hello in 1", "b:1:7 3 hello in 1", "b;1;3;7 3 hello in 1", "b\xff:1:3:7 3 hello in 1", "b:1:3:7 3 hell\xc3\xb6 in 1",
		strings.Repeat(":", 100_000), "a:1:" + strings.Repeat("0", 100_000) + ":", "b:1:3:" + strings.Repeat("1 1 a b 1+", 10_000),
	} {
		checkNoFrame(t, s)
	}
}

// form is that of a frame's text, told anew; the bounds of 40 bits are not in it.
var form = func() *regexp.Regexp {
	const number, message = `(0|[1-9][0-9]*)`, `(0|[1-9][0-9]*) [0-9] [a-z0-9]{1,12} [a-z0-9]{1,8} [0-3]`
	return regexp.MustCompile(`\A(a:[0-3]:` + number + `:|b:[0-3]:` + number + `:` + message + `(\+` + message + `){0,2})\z`)
}()

var digits = regexp.MustCompile(`[0-9]+`)

// isFrame says whether a text is a frame's, by its form (no body of the texts asked here is a number beyond MaxId).
func isFrame(s string) bool {
	if !form.MatchString(s) {
		return false
	}
	return !slices.ContainsFunc(digits.FindAllString(s, -1), func(d string) bool {
		n, err := strconv.Atoi(d)
		return err != nil || n > api.MaxId
	})
}

// Promise 5.1: of all texts that differ from a frame's in one byte just those that are frames' are read.
func TestOneByteOff(t *testing.T) {
	frames, others := 0, 0
	for text := range written() {
		text = strings.ReplaceAll(text, "0123456789ab", "xxxxxxxxxxab")
		for i := range len(text) + 1 {
			near := []string{text[:i]}
			for c := range 256 {
				near = append(near, text[:i]+string([]byte{byte(c)})+text[i:])
				if i < len(text) {
					near = append(near, text[:i]+string([]byte{byte(c)})+text[i+1:])
				}
			}
			if i < len(text) {
				near = append(near, text[:i]+text[i+1:])
			}
			for _, s := range near {
				if !isFrame(s) {
					others++
					checkNoFrame(t, s)
					continue
				}
				frames++
				f, err := frame.Read(s)
				again, wrong := frame.Write(f)
				if err != nil || wrong != nil || again != s {
					t.Errorf("Read(%q) = %v, %v; Write of that = %q, %v", s, f, err, again, wrong)
				}
			}
		}
	}
	if frames < 1000 || others < 1000 {
		t.Errorf("only %d frames, and %d others", frames, others)
	}
}

// Promise 5.1: what Write tells is read as what was written; no two frames have one text.
func TestThereAndBack(t *testing.T) {
	seen := map[string]string{}
	for from := range api.MaxHouses {
		for number := range 13 {
			for n := range api.MaxBatch + 1 {
				for id := range 12 {
					f := frame.Frame{From: from, Number: number, Ack: n == 0, List: some(n)}
					if n > 0 {
						f.List[n-1].Id = id
					} else if id > 0 {
						continue
					}
					s, err := frame.Write(f)
					g, wrong := frame.Read(s)
					if err != nil || wrong != nil || !same(f, g) {
						t.Errorf("Write(%v) = %q, %v; Read of that = %v, %v", f, s, err, g, wrong)
					}
					if who := fmt.Sprint(f); seen[s] != "" && seen[s] != who {
						t.Errorf("%q is %s, and %s", s, seen[s], who)
					}
					seen[s] = fmt.Sprint(f)
				}
			}
		}
	}
}

// P4: no list that is handed in is written into; what is read is fresh memory.
func TestMemory(t *testing.T) {
	behind := some(5)
	f := frame.Frame{From: 1, Number: 3, List: behind[:2]}
	s, err := frame.Write(f)
	if err != nil || !slices.Equal(behind, some(5)) {
		t.Errorf("Write: %v, and the list is %v", err, behind)
	}
	g, _ := frame.Read(s)
	h, _ := frame.Read(s)
	g.List[0].Body = "other"
	g.List = append(g.List, one(0))
	if !slices.Equal(h.List, some(2)) {
		t.Errorf("Read twice: %v", h)
	}
}
