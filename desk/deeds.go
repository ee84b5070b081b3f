package desk

import (
	"maps"
	"slices"
	"strconv"
	"strings"

	"waybill/api"
	"waybill/house"
	"waybill/msg"
	"waybill/world"
)

// deed is what a line does.
type deed struct {
	form string // what stands behind the line's first word
	does func([]word) string
}

// isText says whether a word of a form may be any text; all others are numbers.
func isText(kind string) bool { return kind == "NAME" || kind == "TO" || kind == "BODY" }

func (s *session) allDeeds() map[string]deed {
	return map[string]deed{
		"world":   {"N", s.newWorld},
		"name":    {"K NAME TO HOUSE", s.name},
		"unname":  {"K NAME", s.unname},
		"commit":  {"K UNIT", s.commit},
		"back":    {"K UNIT", s.back},
		"cut":     {"K WRITES TORN", s.cut},
		"restart": {"K", s.restart},
		"send":    {"K HOUSE", s.send}, // not TO, which is a text
		"deliver": {"I", s.deliver},
		"lose":    {"I", s.lose},
		"twice":   {"I", s.twice},
		"calm":    {"ROUNDS", s.calm},
		"put":     {"K UNIT NAME PRIORITY BODY", s.put},
		"get":     {"K UNIT NAME", s.get},
		"names":   {"K", s.names},
		"there":   {"K NAME", s.there},
		"kept":    {"K", s.kept},
		"waits":   {"K HOUSE", s.waits},
		"ledger":  {"", s.ledger},
		"many":    {"", s.many},
		"help":    {"", s.help},
	}
}

// house is that of the line's K. It is asked for ahead of all that it is to do, so that ErrRange is thrown first.
func (s *session) house(l []word) *house.House {
	h, err := s.world.House(l[1].number)
	check(err)
	return h
}

func (s *session) newWorld(l []word) string {
	w, err := world.New(l[1].number)
	check(err)
	s.world = w
	return l[0].text
}

func (s *session) name(l []word) string {
	to := l[3].text
	if to == "-" { // no word of a line is empty
		to = ""
	}
	check(s.house(l).Name(api.Name{Name: l[2].text, To: to, House: l[4].number}))
	return l[0].text
}

func (s *session) unname(l []word) string {
	check(s.house(l).Unname(l[2].text))
	return l[0].text
}

func (s *session) commit(l []word) string {
	check(s.house(l).Commit(l[2].number))
	return l[0].text
}

func (s *session) back(l []word) string {
	check(s.house(l).Backout(l[2].number))
	return l[0].text
}

func (s *session) cut(l []word) string {
	check(s.world.Cut(l[1].number, l[2].number, l[3].number))
	return l[0].text
}

func (s *session) restart(l []word) string {
	check(s.world.Restart(l[1].number))
	return l[0].text
}

func (s *session) send(l []word) string {
	check(s.world.Send(l[1].number, l[2].number))
	return l[0].text
}

func (s *session) deliver(l []word) string {
	check(s.world.Deliver(l[1].number))
	return l[0].text
}

func (s *session) lose(l []word) string {
	check(s.world.Lose(l[1].number))
	return l[0].text
}

func (s *session) twice(l []word) string {
	check(s.world.Twice(l[1].number))
	return l[0].text
}

const maxRounds = 100

func (s *session) calm(l []word) string {
	rounds := l[1].number
	if rounds < 0 || rounds > maxRounds {
		panic(api.ErrRange)
	}
	s.world.Calm(rounds)
	return l[0].text
}

func (s *session) put(l []word) string {
	id, err := s.house(l).Put(l[2].number, l[3].text, l[4].number, l[5].text)
	check(err)
	return strconv.Itoa(id)
}

func (s *session) get(l []word) string {
	m, err := s.house(l).Get(l[2].number, l[3].text)
	check(err)
	return withMessages("got", []api.Message{m})
}

func (s *session) names(l []word) string {
	var texts []string
	for _, x := range s.house(l).Names() {
		texts = append(texts, nameText(x))
	}
	return l[0].text + " " + strings.Join(texts, " ")
}

func (s *session) there(l []word) string {
	m, err := s.house(l).There(l[2].text)
	check(err)
	return withMessages(l[0].text, m)
}

func (s *session) kept(l []word) string { return withMessages(l[0].text, s.house(l).Kept()) }

func (s *session) waits(l []word) string {
	m, err := s.house(l).Waits(l[2].number)
	check(err)
	return withMessages(l[0].text, m)
}

func (s *session) ledger(l []word) string { return withMessages(l[0].text, s.world.Ledger()) }

func (s *session) many([]word) string {
	return strconv.Itoa(s.world.Many()) + " " + strconv.Itoa(s.world.Lost())
}

func (s *session) help([]word) string {
	return strings.Join(slices.Sorted(maps.Keys(s.deeds)), " ")
}

// nameText is a name, and what it stands for.
func nameText(x api.Name) string {
	text := x.Name
	if x.To != "" {
		text += "=" + x.To
	}
	if x.House != -1 {
		text += "@" + strconv.Itoa(x.House)
	}
	return text
}

// withMessages is a word with messages behind it. The blank between stands there also if there are none.
func withMessages(first string, l []api.Message) string {
	text, err := msg.Write(l)
	check(err)
	return first + " " + text
}
