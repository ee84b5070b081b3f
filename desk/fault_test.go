package desk

import "testing"

// P1: what nobody foresaw is caught, too, and is told by a number that no Errno has.
func TestFault(t *testing.T) {
	s := begin()
	s.deeds["fall"] = deed{"", func([]word) string { panic("fault") }}
	s.deeds["step"] = deed{"", func(l []word) string { return l[1].text }}
	for _, line := range []string{"fall", "step"} {
		if got := s.answer(line); got != "error -1" {
			t.Errorf("%s: %q", line, got)
		}
	}
	if got := s.answer("many"); got != "0 0" {
		t.Errorf("behind a fault: %q", got)
	}
}
