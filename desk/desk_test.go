package desk_test

import (
	"fmt"
	"slices"
	"strings"
	"testing"

	"waybill/api"
	"waybill/desk"
)

// told is a line, and what it is answered.
type told struct{ line, answer string }

// answers are those of a text's lines.
func answers(t *testing.T, text string) []string {
	t.Helper()
	got := desk.Session(text)
	if !strings.HasSuffix(got, "\n") {
		t.Fatalf("Session(%.200q) = %.200q: a line has no end", text, got)
	}
	return strings.Split(strings.TrimSuffix(got, "\n"), "\n")
}

// checkSession holds each line's answer against the one that is asked for, behind lines that make ready.
func checkSession(t *testing.T, ready []string, l ...told) {
	t.Helper()
	lines := slices.Clone(ready)
	for _, x := range l {
		lines = append(lines, x.line)
	}
	got := answers(t, strings.Join(lines, "\n"))
	if len(got) != len(lines) {
		t.Fatalf("%q: %d lines are answered by %d", lines, len(lines), len(got))
	}
	for i, text := range got[:len(ready)] {
		if strings.HasPrefix(text, "error") {
			t.Errorf("%q, which makes ready, is answered %q", ready[i], text)
		}
	}
	for i, x := range l {
		if text := got[len(ready)+i]; text != x.answer {
			t.Errorf("line %d, %q, is answered %q, want %q", i, x.line, text, x.answer)
		}
	}
}

func checkText(t *testing.T, text, want string) {
	t.Helper()
	if got := desk.Session(text); got != want {
		t.Errorf("Session(%.100q) = %.200q, want %.200q", text, got, want)
	}
}

// times is a line so many times.
func times(n int, line string) []string { return slices.Repeat([]string{line}, n) }

// Promise 7.1: a text of MaxText bytes is answered, of one more it is not.
func TestLongTexts(t *testing.T) {
	checkText(t, strings.Repeat(" ", api.MaxText), "ok\n")
	checkText(t, strings.Repeat(" ", api.MaxText+1), "error 4\n")
	checkText(t, strings.Repeat("x", api.MaxText), "error 3\n")
	checkText(t, strings.Repeat("x", api.MaxText+1), "error 4\n")
	checkText(t, strings.Repeat("\n", api.MaxText), strings.Repeat("ok\n", api.MaxText))
	checkText(t, strings.Repeat("\n", api.MaxText+1), "error 4\n")
	checkText(t, strings.Repeat("x", api.MaxText-1)+"\n", "error 3\n")
	checkText(t, strings.Repeat("x", api.MaxText)+"\n", "error 4\n") // the line feed that is left out counts
	checkText(t, strings.Repeat("é", api.MaxText/2), "error 3\n")
	checkText(t, strings.Repeat("é", api.MaxText/2)+"x", "error 4\n") // bytes, not runes
	checkText(t, strings.Repeat("many\n", api.MaxText), "error 4\n")
}

// Promise 7.1: lines are cut at line feeds; one at the text's end is left out.
func TestLines(t *testing.T) {
	for text, want := range map[string]string{
		"":                  "ok\n",
		"\n":                "ok\n",
		"\n\n":              "ok\nok\n",
		"\n\n\n":            "ok\nok\nok\n",
		"many":              "0 0\n",
		"many\n":            "0 0\n",
		"many\n\n":          "0 0\nok\n",
		"many\n\n\n":        "0 0\nok\nok\n",
		"\nmany":            "ok\n0 0\n",
		"\n\nmany\n":        "ok\nok\n0 0\n",
		"many\nmany":        "0 0\n0 0\n",
		"many\n\nmany":      "0 0\nok\n0 0\n",
		"world 1\nrestart":  "world\nerror 3\n",
		"many\r\nmany":      "error 3\n0 0\n",
		"many\vmany":        "error 3\n",
		"many\u2028many":    "error 3\n",
		"x\nworld 9\nmany ": "error 3\nerror 2\n0 0\n",
	} {
		checkText(t, text, want)
	}
}

// Promise 7.1: words have blanks between, also several, and at both ends; a line without words is answered ok.
func TestBlanks(t *testing.T) {
	for line, want := range map[string]string{
		" ":                         "ok",
		"     ":                     "ok",
		" many":                     "0 0",
		"many ":                     "0 0",
		"   many   ":                "0 0",
		"calm 1":                    "calm",
		"calm   1":                  "calm",
		"  calm  1  ":               "calm",
		"  name 0   in   -     -1 ": "name",
		"ca lm 1":                   "error 3",
		"calm1":                     "error 3",
	} {
		checkText(t, line, want+"\n")
	}
	for _, other := range []string{"\t", "\r", "\v", "\f", "\x00", "\u00a0", "\u0085", "\u3000", "\xa0", "\xff"} {
		checkText(t, other, "error 3\n")
		checkText(t, "calm"+other+"1", "error 3\n")
		checkText(t, "calm 1"+other, "error 3\n")
		checkText(t, other+"calm 1", "error 3\n")
		checkText(t, "unname 0 a"+other+"b", "error 7\n")
	}
}

// Promise 7.1: a word that is none of these.
func TestOtherWords(t *testing.T) {
	for _, line := range []string{
		"x", "ok", "error", "error 3", "got", "Many", "MANY", "man", "manyy", "many,", "calms 1", "backout 0 0", "0", "-", "house 0", "open 0", "doubt 0 1", "arrived 0 1", "down 0", "lost", "world2", "\xff", "é",
	} {
		checkText(t, line, "error 3\n")
	}
}

const helpText = "back calm commit cut deliver get help kept ledger lose many name names put restart send there twice unname waits world"

// ready lets each line of the table have something to do.
func ready() []string {
	return []string{
		"name 0 in - -1", "name 0 far in 1", "name 1 in - -1",
		"put 0 0 in 3 a", "commit 0 0",
		"put 0 1 in 3 b", "put 0 2 in 3 c",
		"put 0 0 far 3 d", "commit 0 0", "send 0 1",
	}
}

// look tells whether something is changed.
func look() []string {
	return []string{"names 0", "names 1", "there 0 in", "kept 0", "kept 1", "waits 0 1", "ledger", "many"}
}

// tableLine is one of the table, behind ready, as it is right.
type tableLine struct {
	told
	// kinds of the words behind the first one: k: a house's number; r: a number, ErrRange of one that is too great, or below 0; a: ErrArg of it; n: any number; t: a text; and, if it may be no text of all sorts, the error's number.
	kinds []string
}

func table() []tableLine {
	return []tableLine{
		{told{"world 3", "world"}, []string{"r"}},
		{told{"name 0 x - -1", "name"}, []string{"k", "t1", "t1", "a"}},
		{told{"unname 0 in", "unname"}, []string{"k", "t7"}},
		{told{"commit 0 1", "commit"}, []string{"k", "r"}},
		{told{"back 0 2", "back"}, []string{"k", "r"}},
		{told{"cut 0 1 2", "cut"}, []string{"k", "n", "n"}},
		{told{"restart 0", "restart"}, []string{"k"}},
		{told{"send 0 1", "send"}, []string{"k", "r"}},
		{told{"deliver 0", "deliver"}, []string{"r"}},
		{told{"lose 0", "lose"}, []string{"r"}},
		{told{"twice 0", "twice"}, []string{"r"}},
		{told{"calm 1", "calm"}, []string{"r"}},
		{told{"put 0 0 in 3 e", "16"}, []string{"k", "r", "t7", "a", "t1"}},
		{told{"get 0 0 in", "got 0 3 a in 0"}, []string{"k", "r", "t7"}},
		{told{"names 0", "names far=in@1 in"}, []string{"k"}},
		{told{"there 0 in", "there 0 3 a in 0"}, []string{"k", "t7"}},
		{told{"kept 0", "kept 0 3 a in 0"}, []string{"k"}},
		{told{"waits 0 1", "waits 12 3 d in 1"}, []string{"k", "r"}},
		{told{"ledger", "ledger 0 3 a in 0+12 3 d in 1"}, nil},
		{told{"many", "1 0"}, nil},
		{told{"help", helpText}, nil},
	}
}

// with is a line with another word in the place of its i-th one behind the first.
func with(line string, i int, other string) string {
	words := strings.Fields(line)
	words[i+1] = other
	return strings.Join(words, " ")
}

// checkUnchanged checks that lines that tell errors change nothing.
func checkUnchanged(t *testing.T, wrong []told) {
	t.Helper()
	all := slices.Clone(wrong)
	before := answers(t, strings.Join(append(ready(), look()...), "\n"))[len(ready()):]
	for i, line := range look() {
		all = append(all, told{line, before[i]})
	}
	checkSession(t, ready(), all...)
}

// Promise 7.1: each line of the table when all is well, of which help tells all.
func TestTable(t *testing.T) {
	var words []string
	for _, x := range table() {
		checkSession(t, ready(), x.told)
		words = append(words, strings.Fields(x.line)[0])
	}
	slices.Sort(words)
	if got := strings.Join(words, " "); got != helpText {
		t.Errorf("the table has %q", got)
	}
}

// Promise 7.1: just so many words stand behind each one.
func TestHowManyWords(t *testing.T) {
	var wrong []told
	for _, x := range table() {
		words := strings.Fields(x.line)
		for n := 1; n < len(words); n++ {
			wrong = append(wrong, told{strings.Join(words[:n], " "), "error 3"})
		}
		for _, more := range []string{"0", "1", "x", "-"} {
			wrong = append(wrong, told{x.line + " " + more, "error 3"}, told{x.line + " " + more + " " + more, "error 3"})
		}
	}
	checkUnchanged(t, wrong)
}

// Promise 7.1, P5: numbers are decimal, with - below 0, without a nought ahead, of 64 bits.
func TestNumbers(t *testing.T) {
	notOne := []string{
		"+0", "+1", "-0", "00", "01", "-01", "-00", "--1", "-", "+", "x", "1x", "x1", "0x1", "0b1", "1_0", "1.0", "1.", "1e0", "1,0", "'1'", "\u0661", "\uff11", "1\t",
		"9223372036854775808", "-9223372036854775809", "18446744073709551615", "18446744073709551616", "99999999999999999999", "-99999999999999999999", "340282366920938463463374607431768211457", "009223372036854775807",
	}
	var wrong []told
	for _, x := range table() {
		for i, kind := range x.kinds {
			for _, text := range notOne {
				if kind[0] != 't' {
					wrong = append(wrong, told{with(x.line, i, text), "error 3"})
				}
			}
		}
	}
	// A session has room for MaxText bytes.
	for l := range slices.Chunk(wrong, 300) {
		checkUnchanged(t, l)
	}
}

// Promise 7.1: the greatest and the least numbers of 64 bits are numbers.
func TestEndsOf64Bits(t *testing.T) {
	for _, x := range table() {
		for i, kind := range x.kinds {
			want := map[byte]string{'k': "error 2", 'r': "error 2", 'a': "error 1", 'n': x.answer}[kind[0]]
			for _, text := range []string{"9223372036854775807", "-9223372036854775808", "9223372036854775800", "4294967296", "-4294967296", "-9"} {
				if kind[0] != 't' {
					checkSession(t, ready(), told{with(x.line, i, text), want})
				}
			}
		}
	}
}

// Promise 7.1: NAME, TO and BODY are no numbers: of what may not be one the house tells.
func TestTexts(t *testing.T) {
	var wrong []told
	for _, x := range table() {
		for i, kind := range x.kinds {
			for _, text := range []string{"+1", "-0", "--", "X", "é", "\xff", "a\tb", "a+b", "a:b", "abcdefghijklmn"} {
				if kind[0] == 't' {
					wrong = append(wrong, told{with(x.line, i, text), "error " + kind[1:]})
				}
			}
		}
	}
	checkUnchanged(t, wrong)
	checkSession(t, ready(),
		told{"name 0 01 007 -1", "name"}, told{"name 0 007 - -1", "name"}, told{"put 0 0 01 1 00", "16"}, told{"commit 0 0", "commit"}, told{"there 0 007", "there 16 1 00 007 0"},
		told{"name 0 put put 1", "name"}, told{"name 0 - x 1", "error 1"}, told{"unname 0 -", "error 7"}, told{"put 0 0 - 1 x", "error 7"}, told{"put 0 0 in 1 -", "error 1"}, told{"there 0 -", "error 7"}, told{"get 0 0 -", "error 7"})
}

// Promise 7.1: a house that is none of the world is told behind ErrForm, and ahead of all else.
func TestNoHouse(t *testing.T) {
	var wrong []told
	for _, k := range []string{"-1", "2", "3", "4", "-9223372036854775808", "9223372036854775807"} {
		for _, x := range table() {
			if len(x.kinds) == 0 || x.kinds[0] != "k" {
				continue
			}
			line := with(x.line, 0, k)
			wrong = append(wrong, told{line, "error 2"}, told{line + " 0", "error 3"})
			for i, kind := range x.kinds[1:] {
				if kind[0] == 't' {
					line = with(line, i+1, "!")
				} else {
					wrong = append(wrong, told{with(line, i+1, "!"), "error 3"})
					line = with(line, i+1, "-77")
				}
			}
			wrong = append(wrong, told{line, "error 2"})
		}
	}
	checkUnchanged(t, wrong)
}

// Promise 7.1: a world of two houses at first, and each session has one of its own.
func TestFirstWorld(t *testing.T) {
	for range 2 {
		checkSession(t, nil,
			told{"names 0", "names "}, told{"names 1", "names "}, told{"names 2", "error 2"}, told{"names -1", "error 2"},
			told{"many", "0 0"}, told{"ledger", "ledger "}, told{"kept 0", "kept "}, told{"kept 1", "kept "},
			told{"name 0 in - -1", "name"}, told{"put 0 0 in 1 a", "0"}, told{"commit 0 0", "commit"}, told{"ledger", "ledger 0 1 a in 0"})
	}
}

// Promise 7.1: many lines, and a long one.
func TestManyLines(t *testing.T) {
	n := api.MaxText / len("ledger\n")
	checkText(t, strings.Repeat("ledger\n", n), strings.Repeat("ledger \n", n))
	checkText(t, "many"+strings.Repeat(" x", 9000), "error 3\n")
	checkText(t, "calm "+strings.Repeat("9", 19000), "error 3\n")
	checkText(t, fmt.Sprint("calm", strings.Repeat(" ", 19000), "7"), "calm\n")
}
