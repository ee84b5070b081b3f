// Package msg: messages, and how they are written.
package msg

import (
	"cmp"
	"slices"

	"waybill/api"
)

// Word says whether a text may be a name: 1 to MaxWord letters of a to z, 0 to 9.
func Word(s string) bool { return letters(s, api.MaxWord) }

// Body says whether a text may be a body: 1 to MaxBody such letters.
func Body(s string) bool { return letters(s, api.MaxBody) }

// Right says whether a message may be: a number from 0 to MaxId, a priority from 0 to MaxPriority, a body, a name, a house from 0 to below MaxHouses.
func Right(m api.Message) bool {
	most := [3]int{api.MaxId, api.MaxPriority, api.MaxHouses - 1}
	for i, n := range [3]int{m.Id, m.Priority, m.House} {
		if n < 0 || n > most[i] {
			return false
		}
	}
	return Body(m.Body) && Word(m.Queue)
}

// Compare is the order of messages in a queue: the more urgent one first; of one priority the one of the lesser number in line.
func Compare(a, b api.Message, x, y int) int {
	if a.Priority != b.Priority {
		return cmp.Compare(b.Priority, a.Priority)
	}
	return cmp.Compare(x, y)
}

// Write writes messages: each one's number, priority, body, queue, house, with blanks between; + between messages; none: the empty text. ErrArg: one may not be: an At at it.
func Write(l []api.Message) (string, error) {
	wrong := slices.IndexFunc(l, func(m api.Message) bool { return !Right(m) })
	if wrong >= 0 {
		return "", &api.At{Err: api.ErrArg, Place: wrong}
	}
	var text []byte
	for i, m := range l {
		if i > 0 {
			text = append(text, between)
		}
		text = appendMessage(text, m)
	}
	return string(text), nil
}

// Read reads what Write writes. ErrForm.
func Read(s string) ([]api.Message, error) {
	var l []api.Message
	for m, ok := range messages(s) {
		if !ok {
			return nil, api.ErrForm
		}
		l = append(l, m)
	}
	return l, nil
}

// letters counts bytes, not runes: all that it lets through are single bytes.
func letters(s string, most int) bool {
	if len(s) == 0 || len(s) > most {
		return false
	}
	for i := range len(s) {
		if !letter(s[i]) {
			return false
		}
	}
	return true
}

func letter(c byte) bool { return 'a' <= c && c <= 'z' || '0' <= c && c <= '9' }
