package tests

import (
	"fmt"
	"math/big"
	"regexp"
	"strings"
	"testing"

	"loop.example/g03007/impl"
)

// lineForms tells for each first word what comes behind it: numbers (n) or a kind (k).
var lineForms = map[string]string{
	"new": "n", "find": "nknnnnnnnn", "claim": "nnn", "answer": "nn", "serve": "n", "clear": "n", "sell": "nnn", "tick": "n",
	"ask": "n", "story": "n", "fate": "n", "due": "", "balance": "n", "slots": "", "claims": "", "house": "", "audit": "",
}

var numberForm = regexp.MustCompile(`^(0|[1-9][0-9]*)$`)

// readWords returns the numbers of the words; false if one of them is not what it should be.
func readWords(form string, words []string) ([]int, bool) {
	if len(words) != len(form) {
		return nil, false
	}
	var numbers []int
	for i, word := range words {
		n := 0
		if form[i] == 'k' {
			for kind := 1; kind <= 8; kind++ {
				if kindTexts[kind] == word {
					n = kind
				}
			}
			if n == 0 {
				return nil, false
			}
		} else {
			value, ok := new(big.Int).SetString(word, 10)
			if !ok || !numberForm.MatchString(word) || value.Cmp(big.NewInt(1000000000000)) > 0 {
				return nil, false
			}
			n = int(value.Int64())
		}
		numbers = append(numbers, n)
	}
	return numbers, true
}

// wantStep is what a line that changes the house performs; false for other lines.
func wantStep(word string, n []int) (tried, bool) {
	switch word {
	case "new":
		return func(h impl.House) (impl.House, bool) {
			next, ok := impl.NewHouse(n[0], []impl.Slot{slot(1, 5, 0), slot(2, 10, 0), slot(3, 20, 0), slot(4, 50, 0)})
			if !ok {
				return h, false
			}
			return next, true
		}, true
	case "find":
		f := impl.Find{Thing: impl.Thing{Id: n[0], Kind: n[1], Colour: n[2], Size: n[3], Worth: n[4]}, Place: n[5], At: n[6], Finder: n[7]}
		return finding(f, 0, mark(1, n[8]), mark(2, n[9])), true
	case "claim":
		return claiming(n[0], n[1], n[2]), true
	case "answer":
		return answering(n[0], n[1]), true
	case "serve":
		return serving(n[0]), true
	case "clear":
		return clearing(n[0]), true
	case "sell":
		return selling(n[0], bid(101, n[1]), bid(102, n[2])), true
	case "tick":
		return ticking(n[0]), true
	}
	return nil, false
}

// wantShown is the output of a line that only shows something.
func wantShown(h impl.House, word string, n []int) string {
	switch word {
	case "ask":
		at := impl.FindClaim(h.Claims, n[0])
		x, ok := impl.TrialOf(h, n[0])
		if at < 0 || !ok {
			return "no"
		}
		return fmt.Sprint(impl.NextQuestion(impl.MarksOf(h.Secrets, h.Claims[at].Thing), x))
	case "story":
		return impl.StoryOf(h.Chain, n[0])
	case "fate":
		at := impl.FindThing(h.Finds, n[0])
		if at < 0 {
			return "no"
		}
		return impl.FateName(impl.FateOf(h.Finds[at], h.Claims, h.Now))
	case "due":
		return impl.FormatNumbers(impl.DueThings(h.Finds, h.Now))
	case "balance":
		return impl.FormatCents(impl.Balance(h.Book, n[0]))
	case "slots":
		return impl.FormatSlots(h.Slots)
	case "claims":
		return impl.FormatClaims(h.Claims)
	case "house":
		return impl.FormatHouse(h)
	}
	if fault := impl.FaultOf(h); fault != "" {
		return fault
	}
	return "ok"
}

func wantLine(h impl.House, line string) (impl.House, string) {
	words := strings.FieldsFunc(line, func(r rune) bool { return r == ' ' })
	if len(line) > 200 || len(words) == 0 {
		return h, "what"
	}
	if words[0] == "match" {
		r, ok := impl.ParseReport(strings.Join(words[1:], " "))
		if !ok {
			return h, "what"
		}
		return h, impl.FormatNumbers(impl.Candidates(r, h.Finds))
	}
	form, isKnown := lineForms[words[0]]
	n, ok := readWords(form, words[1:])
	if !isKnown || !ok {
		return h, "what"
	}
	step, isStep := wantStep(words[0], n)
	if !isStep {
		return h, wantShown(h, words[0], n)
	}
	next, ok := step(h)
	if !ok {
		return h, "no"
	}
	return next, "ok"
}

// checkLine also checks that the house is not changed, and that the result is new memory.
func checkLine(t *testing.T, h impl.House, line string) {
	t.Helper()
	want, wantOutput := wantLine(h, line)
	wantText := houseText(want)
	arg, unchanged := guardedHouse(h)
	got, output := impl.ConsoleLine(arg, line)
	checkValue(t, output, wantOutput, "the output of ConsoleLine(.., %q)", line)
	checkValue(t, houseText(got), wantText, "ConsoleLine(.., %q)", line)
	overwriteHouse(got)
	unchanged(t)
}

func checkOutputs(t *testing.T, h impl.House, outputs map[string]string) {
	t.Helper()
	for line, want := range outputs {
		_, output := impl.ConsoleLine(h, line)
		checkValue(t, output, want, "the output of ConsoleLine(.., %q)", line)
		checkLine(t, h, line)
	}
}

func TestConsoleConstants(t *testing.T) {
	checkList(t, []int{impl.MaxLines, impl.MaxLineLen}, []int{60, 200}, "the limits")
	want := []impl.Slot{slot(1, 5, 0), slot(2, 10, 0), slot(3, 20, 0), slot(4, 50, 0)}
	got := impl.ExampleSlots()
	checkList(t, got, want, "ExampleSlots")
	overwrite(got, impl.Slot{})
	checkList(t, impl.ExampleSlots(), want, "ExampleSlots again")
}

func TestConsoleLinesOfAFullHouse(t *testing.T) {
	checkOutputs(t, fullHouse(), map[string]string{
		"new 1": "ok", "new 9": "ok", "new 0": "no", "new 10": "no", "new 1000000000000": "no",
		"find 10 coat 3 4 900 5 60 7 6 99": "ok", "find 10 other 7 50 10000000 30 0 999 0 0": "ok", "find 2 coat 3 4 900 5 60 7 6 99": "no", "find 10 coat 8 4 900 5 60 7 6 99": "no",
		"find 10 coat 3 4 900 5 61 7 6 99": "no", "find 10 coat 3 4 900 5 60 7 100 99": "no", "find 10 coat 3 4 900 5 60 7 6 100": "no", "find 10 coat 3 4 900 31 60 7 6 9": "no", "find 10 coat 3 4 900 5 60 1000 6 9": "no",
		"claim 2 16 4": "ok", "claim 1 16 4": "no", "claim 2 11 2": "no", "claim 2 16 6": "no", "claim 0 16 4": "no",
		"answer 1 7": "ok", "answer 999 1000": "ok", "answer 3 7": "no", "answer 5 7": "no",
		"serve 2": "ok", "serve 4": "no", "serve 0": "no", "clear 4": "no", "sell 4 5 6": "no", "tick 1": "ok", "tick 10000": "ok", "tick 10001": "no", "tick 0": "no",
		"match 7 bag - 1-50 - 0-0": "2 4 6 8", "match 7 bag 2,3 4-9 1,5 6-31": "4", "match 1 coat - 1-50 - 0-0": "-", "match 7 bag 3 4-4 9 8-8": "8",
		"ask 3": "0", "ask 4": "0", "ask 8": "0", "ask 5": "no", "ask 0": "no",
		"story 2": "finder7+5 house3+5", "story 6": "house3+7 owner12+40", "story 90": "house5+60", "story 1": "-", "story 0": "-",
		"fate 2": "serve", "fate 4": "keep", "fate 6": "keep", "fate 90": "no", "fate 0": "no",
		"due": "-", "balance 0": "0.85", "balance 12": "-0.90", "balance 7": "0.05", "balance 5": "0.00", "balance 1000000000000": "0.00",
		"slots": "1:4 2:. 5:2 99:.", "claims": "1:11>2o 3:12>6s 4:13>2p 8:14>6f 999:15>8o", "house": "3 60 4 5 9 2", "audit": "ok",
	})
}

func TestConsoleLinesOfOtherHouses(t *testing.T) {
	checkOutputs(t, saleHouse(5001, 8), map[string]string{"sell 2 700 300": "ok", "sell 2 300 700": "ok", "sell 2 300 300": "ok", "sell 2 0 300": "no", "sell 2 300 10000001": "no", "sell 3 700 300": "no", "clear 2": "no", "fate 2": "sell", "due": "2"})
	checkOutputs(t, saleHouse(900, 8), map[string]string{"clear 2": "ok", "sell 2 700 300": "no", "fate 2": "finder", "serve 2": "no"})
	checkOutputs(t, impl.House{}, map[string]string{"audit": "house", "house": "0 0 0 0 0 0", "slots": "-", "claims": "-", "due": "-", "tick 1": "no", "new 3": "ok", "balance 0": "0.00", "ask 1": "no", "match 7 bag - 1-50 - 0-0": "-"})
	checkOutputs(t, givenAway(impl.HdBuyer, 9, 10), map[string]string{"audit": "early", "story 2": "house1+0 buyer9+10"})
	// A claim without a trial, and a trial without a claim.
	odd := impl.House{Finds: []impl.Find{{}}, Claims: []impl.Claim{claim(5, 1, 2, 3, 0)}, Trials: []impl.Trial{trial(6, 0, 0)}}
	checkOutputs(t, odd, map[string]string{"ask 5": "no", "ask 6": "no", "fate 0": "keep"})
	asked := impl.House{Secrets: []impl.Secret{markedSecret(2, 5)}, Claims: []impl.Claim{claim(5, 1, 2, 3, 0)}, Trials: []impl.Trial{trial(5, 1, 1)}}
	checkOutputs(t, asked, map[string]string{"ask 5": fmt.Sprint(impl.QuestionFor(markedSecret(2, 5).Marks, 5, 2))})
}

func TestWordsThatLookLikeNumbers(t *testing.T) {
	h := fullHouse()
	for _, word := range []string{"-1", "+1", "01", "00", "1.", "1.0", "0x1", "1e3", "1_000", "1,", "१", "１", "1000000000001", "9223372036854775808", "18446744073709551617", "99999999999999999999999999", "-", "one", "\t1", "1\n", "\x00", "1\r"} {
		for _, line := range []string{
			"new " + word, "tick " + word, "serve " + word, "clear " + word, "ask " + word, "story " + word, "fate " + word, "balance " + word,
			"claim " + word + " 16 4", "claim 2 " + word + " 4", "claim 2 16 " + word, "answer " + word + " 7", "answer 1 " + word, "sell " + word + " 5 6", "sell 4 " + word + " 6", "sell 4 5 " + word,
			"find " + word + " coat 3 4 900 5 60 7 6 99", "find 10 " + word + " 3 4 900 5 60 7 6 99", "find 10 coat 3 4 900 5 60 7 6 " + word, "find 10 coat 3 4 900 " + word + " 60 7 6 99",
			"match " + word + " bag - 1-50 - 0-0", "match 7 " + word + " - 1-50 - 0-0", word, word + " 1", "due " + word, "slots " + word,
		} {
			_, output := impl.ConsoleLine(h, line)
			checkValue(t, output, "what", "the output of ConsoleLine(.., %q)", line)
			checkLine(t, h, line)
		}
	}
	for _, line := range []string{"find 10 2 3 4 900 5 60 7 6 99", "find coat 10 3 4 900 5 60 7 6 99", "find 10 Coat 3 4 900 5 60 7 6 99", "find 10 box 3 4 900 5 60 7 6 99", "claim coat 16 4", "claim 2 coat 4", "tick bag", "match bag - 1-50 - 0-0", "match 7 bag - 50-1 - 0-0", "match 0 bag - 1-50 - 0-0", "match 7 bag - 1-50 - 0-0 1"} {
		_, output := impl.ConsoleLine(h, line)
		checkValue(t, output, "what", "the output of ConsoleLine(.., %q)", line)
	}
}

func TestLinesWithMoreOrFewerWords(t *testing.T) {
	for word, form := range lineForms {
		for count := range 13 {
			line := word
			for i := range count {
				if i < len(form) && form[i] == 'k' {
					line += " bag"
				} else {
					line += " 1"
				}
			}
			checkLine(t, fullHouse(), line)
			if count != len(form) {
				_, output := impl.ConsoleLine(fullHouse(), line)
				checkValue(t, output, "what", "the output of ConsoleLine(.., %q)", line)
			}
		}
		for _, other := range []string{strings.ToUpper(word), word + "s", word[1:], word[:len(word)-1], "1" + word, word + ";", "\t" + word, word + "\t"} {
			line := other + strings.Repeat(" 1", len(form))
			checkLine(t, fullHouse(), line)
		}
	}
	for _, line := range []string{"", " ", "    ", "\t", "\n", "what", "ok", "no", "match", "match 7", "-", "house house", "new 1 2", "1 new", "\x00"} {
		_, output := impl.ConsoleLine(fullHouse(), line)
		checkValue(t, output, "what", "the output of ConsoleLine(.., %q)", line)
		checkLine(t, fullHouse(), line)
	}
}

func TestBlanksBetweenWords(t *testing.T) {
	for _, line := range []string{"  house", "house  ", "   house   ", " claim  2   16 4 ", "match   7 bag  -  1-50 -   0-0  ", "  find 10  coat 3 4 900 5 60 7 6 99", "tick          1"} {
		_, output := impl.ConsoleLine(fullHouse(), line)
		checkValue(t, output != "what", true, "whether the console understands %q", line)
		checkLine(t, fullHouse(), line)
	}
	for _, line := range []string{"house\t", "tick\t1", "tick 1\t", "tick\n1", "tick\u00a01", "\rhouse", "match 7 bag\t- 1-50 - 0-0"} {
		_, output := impl.ConsoleLine(fullHouse(), line)
		checkValue(t, output, "what", "the output of ConsoleLine(.., %q)", line)
	}
}

func TestLinesThatAreTooLong(t *testing.T) {
	for _, start := range []string{"house", "tick 1", "match 7 bag - 1-50 - 0-0"} {
		for _, size := range []int{199, 200, 201, 202, 5000} {
			line := start + strings.Repeat(" ", size-len(start))
			_, output := impl.ConsoleLine(fullHouse(), line)
			checkValue(t, output == "what", size > 200, "whether a line with %d bytes is too long", size)
			checkLine(t, fullHouse(), line)
			checkLine(t, fullHouse(), strings.Repeat(" ", size-len(start))+start)
		}
	}
	// Bytes count, not characters.
	checkLine(t, fullHouse(), "house"+strings.Repeat("é", 150))
}

// anyLine often is one that the console understands.
func anyLine(roll func(n int) int) string {
	words := []string{"new", "find", "claim", "answer", "serve", "clear", "sell", "tick", "ask", "story", "fate", "due", "balance", "slots", "claims", "house", "audit", "match"}
	word := words[roll(len(words))]
	if word == "match" {
		return fmt.Sprintf("match %d %s - 1-%d - 0-%d", roll(4), kindTexts[roll(9)], roll(52), roll(9))
	}
	line := word
	for i, c := range lineForms[word] {
		switch {
		case c == 'k':
			line += " " + kindTexts[roll(3)+1]
		case word == "find" && i == 6:
			line += " 0"
		default:
			line += fmt.Sprintf(" %d", []int{roll(3) + 1, roll(3) + 1, roll(3) + 1, roll(9), roll(9000)}[roll(5)])
		}
	}
	if roll(20) == 0 {
		line += []string{" ", " 1", "x", "\n"}[roll(4)]
	}
	return line
}

func TestTheConsoleAnswersEveryLine(t *testing.T) {
	met := map[string]int{}
	for seed := range 25 {
		roll := dice(seed)
		h := impl.House{}
		if seed%2 == 0 {
			h, _ = impl.ConsoleLine(h, "new 1")
		}
		for range 300 {
			line := anyLine(roll)
			if seed%2 == 0 && strings.HasPrefix(line, "new") {
				continue
			}
			checkLine(t, h, line)
			next, output := impl.ConsoleLine(h, line)
			checkValue(t, output != "", true, "whether there is an answer to %q", line)
			met[strings.SplitN(line, " ", 2)[0]+" "+output]++
			h = next
		}
	}
	for _, word := range []string{"new", "find", "claim", "answer", "tick", "clear"} {
		if met[word+" ok"] == 0 || met[word+" no"] == 0 {
			t.Errorf("%s had these outputs only: %d ok, %d no", word, met[word+" ok"], met[word+" no"])
		}
	}
}

// checkRun holds RunConsole against the lines one by one.
func checkRun(t *testing.T, text string, lines []string) {
	t.Helper()
	var want []string
	h := impl.House{}
	for _, line := range lines {
		var output string
		h, output = wantLine(h, line)
		want = append(want, output)
	}
	got, ok := impl.RunConsole(text)
	checkList(t, got, want, "RunConsole(%q)", text)
	checkValue(t, ok, true, "RunConsole(%q)", text)
}

func TestRunConsole(t *testing.T) {
	checkRun(t, "", nil)
	checkRun(t, "\n", []string{""})
	checkRun(t, "\n\n", []string{"", ""})
	checkRun(t, "house", []string{"house"})
	checkRun(t, "house\n", []string{"house"})
	checkRun(t, "house\n\n", []string{"house", ""})
	checkRun(t, "\nhouse", []string{"", "house"})
	checkRun(t, "new 1\r\nhouse\n", []string{"new 1\r", "house"})
	checkRun(t, "new 1\n\nhouse", []string{"new 1", "", "house"})
	for seed := range 20 {
		roll := dice(seed)
		lines := []string{"new 1"}
		for len(lines) < 60 {
			if line := anyLine(roll); !strings.Contains(line, "\n") {
				lines = append(lines, line)
			}
		}
		checkRun(t, strings.Join(lines, "\n"), lines)
		checkRun(t, strings.Join(lines, "\n")+"\n", lines)
	}
}

func TestRunConsoleWithTooManyLines(t *testing.T) {
	for _, line := range []string{"house", "", "x", "new 1"} {
		for count := 58; count <= 63; count++ {
			for _, text := range []string{strings.Repeat(line+"\n", count), strings.Repeat(line+"\n", count-1) + line} {
				lines := count
				if text == strings.Repeat("\n", count-1) {
					lines = count - 1
				}
				got, ok := impl.RunConsole(text)
				checkValue(t, ok, lines <= 60, "RunConsole with %d lines %q", lines, line)
				if ok {
					checkValue(t, len(got), lines, "the outputs of %d lines %q", lines, line)
				} else {
					checkValue(t, len(got), 0, "the outputs of %d lines %q", lines, line)
				}
			}
		}
	}
}

func TestAWholeDayAtTheConsole(t *testing.T) {
	lines := []string{
		"new 1", "find 2 bag 3 4 900 5 0 7 6 6", "find 4 phone 0 3 60000 2 0 8 5 5", "slots", "claim 1 11 2", "claim 2 12 2", "answer 2 99", "answer 2 99", "ask 2", "claims", "match 7 bag 2,3 4-9 - 0-31",
		"answer 1 6", "answer 1 6", "serve 2", "story 2", "balance 0", "tick 4320", "due", "sell 4 700 300", "balance 8", "balance 0", "house", "audit", "bye",
	}
	want := []string{
		"ok", "ok", "ok", "1:2 2:4 3:. 4:.", "ok", "ok", "ok", "ok", "0", "1:11>2o 2:12>2f", "2",
		"ok", "ok", "ok", "house1+0 owner11+0", "0.90", "ok", "2 4", "ok", "0.30", "3.60", "1 4320 2 2 4 3", "ok", "what",
	}
	got, ok := impl.RunConsole(strings.Join(lines, "\n"))
	checkList(t, got, want, "RunConsole")
	checkValue(t, ok, true, "RunConsole")
}
