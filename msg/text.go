package msg

import (
	"iter"
	"strconv"
	"strings"

	"waybill/api"
)

const (
	blank   = ' ' // between the words of a message
	between = '+' // between messages
)

func appendMessage(text []byte, m api.Message) []byte {
	text = strconv.AppendInt(text, int64(m.Id), 10)
	text = append(text, blank)
	text = strconv.AppendInt(text, int64(m.Priority), 10)
	text = append(text, blank)
	text = append(text, m.Body...)
	text = append(text, blank)
	text = append(text, m.Queue...)
	text = append(text, blank)
	return strconv.AppendInt(text, int64(m.House), 10)
}

// messages goes through those of a text, each with whether it is one that Write writes.
func messages(s string) iter.Seq2[api.Message, bool] {
	return func(yield func(api.Message, bool) bool) {
		if s == "" { // no messages, not one without words
			return
		}
		for part := range parts(s, between) {
			m, ok := message(part)
			if !yield(m, ok) {
				return
			}
		}
	}
}

// parts goes through what stands between separators, as it is asked for: a text that is wrong early is not cut up to its end.
func parts(s string, separator byte) iter.Seq[string] {
	return func(yield func(string) bool) {
		rest := s
		for {
			end := strings.IndexByte(rest, separator)
			if end < 0 {
				yield(rest)
				return
			}
			if !yield(rest[:end]) {
				return
			}
			rest = rest[end+1:]
		}
	}
}

func message(s string) (api.Message, bool) {
	w, ok := words(s)
	if !ok {
		return api.Message{}, false
	}
	var n [3]int
	for i, text := range [3]string{w[0], w[1], w[4]} {
		if n[i], ok = number(text); !ok {
			return api.Message{}, false
		}
	}
	m := api.Message{Id: n[0], Priority: n[1], Body: w[2], Queue: w[3], House: n[2]}
	if !Right(m) {
		return api.Message{}, false
	}
	// A piece of s would keep all of s alive as long as the message is.
	m.Body, m.Queue = strings.Clone(m.Body), strings.Clone(m.Queue)
	return m, true
}

// words are the five of a message; false, if there are more or fewer.
func words(s string) ([5]string, bool) {
	var l [5]string
	n := 0
	for w := range parts(s, blank) {
		if n == len(l) {
			return [5]string{}, false
		}
		l[n] = w
		n++
	}
	return l, n == len(l)
}

// number takes only what Write writes: Atoi alone would also let signs and noughts ahead through.
func number(s string) (int, bool) {
	n, err := strconv.Atoi(s)
	if err != nil || strconv.Itoa(n) != s {
		return 0, false
	}
	return n, true
}
