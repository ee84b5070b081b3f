package house

import (
	"math"
	"testing"

	"waybill/api"
)

// Promise 4.1: how many bytes of a write are there when the power is off; at most all but the last one. (From outside it is not to be seen: what is torn is nothing.)
func TestTornBytes(t *testing.T) {
	x := change{kind: named, name: api.Name{Name: "in", House: -1}}
	text := x.text()
	for _, torn := range []int{math.MinInt, -1, 0, 1, 5, len(text) - 2, len(text) - 1, len(text), len(text) + 1, math.MaxInt} {
		d := new(Disk)
		d.Cut(0)
		h, _ := Open(1, d)
		h.Torn(torn)
		h.Name(x.name)
		if want := text[:max(0, min(torn, len(text)-1))]; d.places[0] != want {
			t.Errorf("torn %d: %q is there, want %q", torn, d.places[0], want)
		}
	}
	d := new(Disk)
	d.Cut(0)
	h, _ := Open(1, d)
	if h.Name(x.name); d.places[0] != "" {
		t.Errorf("torn at first: %q", d.places[0])
	}
}

// Promise 4.1: a place of which any byte is missing, or one is too many, is not read.
func TestReadChange(t *testing.T) {
	for _, c := range []change{
		{},
		{kind: named, name: api.Name{Name: "a", To: "b", House: 3}},
		{kind: over, ids: []int{3, 1, 2}, queued: []api.Message{{Id: 1, Body: "x", Queue: "in", House: 1}}, waits: []api.Message{{Id: 5, Body: "y", Queue: "in", House: 2}, {Id: 9, Body: "z", Queue: "in", House: 2}}},
		{kind: arrived, house: 2, dead: []api.Message{{Id: api.MaxId, Priority: 9, Body: "0123456789ab", Queue: "abcdefgh", House: 3}}},
	} {
		text := c.text()
		for i := range text {
			if got, ok := readChange(text[:i]); ok {
				t.Errorf("%q is read as %v", text[:i], got)
			}
		}
		for _, s := range []string{text + text, text + end, between + text, "x" + text} {
			if got, ok := readChange(s); ok {
				t.Errorf("%q is read as %v", s, got)
			}
		}
		if got, ok := readChange(text); !ok || got.text() != text {
			t.Errorf("%q is read as %v, %v", text, got, ok)
		}
	}
}
