package tests

import (
	"fmt"
	"regexp"
	"slices"
	"strconv"
	"strings"
	"testing"

	"loop.example/g00264/impl"
)

const numberForm = `(0|[1-9][0-9]{0,8})`

var (
	treeLine    = regexp.MustCompile(`(?s)^tree(?: (.*))?$`)
	atLine      = regexp.MustCompile(`(?s)^at ` + numberForm + ` (.*)$`)
	eventLine   = regexp.MustCompile(`^(sync|fold|deliver|drop|twice) ` + numberForm + `$`)
	crashLine   = regexp.MustCompile(`^crash ` + numberForm + ` ` + numberForm + `$`)
	calmLine    = regexp.MustCompile(`^calm ` + numberForm + `$`)
	grantedLine = regexp.MustCompile(`^granted ([a-z0-9]{1,10})$`)
)

func codeText(code int) string { return []string{"done", "refused", "stale", "bad"}[code] }

func plainReadOp(s string) (impl.Op, bool) {
	op := opOfText(s)
	if op.Kind == impl.OpHear || !isOp(op) {
		return impl.Op{}, false
	}
	return op, true
}

// dashed has a semicolon between each two texts, and a - for none.
func dashed(list []string) string {
	if len(list) == 0 {
		return "-"
	}
	return strings.Join(list, ";")
}

func plainNet(w impl.World) string {
	var list []string
	for _, frame := range w.Net {
		text := "?"
		if m, ok := impl.Unframe(frame); ok {
			text = impl.MsgText(m)
		}
		list = append(list, text)
	}
	return dashed(list)
}

func plainTold(w impl.World) string {
	var list []string
	for _, told := range w.Told {
		list = append(list, fmt.Sprintf("%d:%s %s", told.At, impl.OpText(told.Answer.Op), codeText(told.Answer.Code)))
	}
	return dashed(list)
}

// plainLine answers one line as the chapter tells it, by what the tests of the chapters before make of a world.
func plainLine(w impl.World, line string) (impl.World, string) {
	whole := func(text string) int {
		n, _ := strconv.Atoi(text)
		return n
	}
	do := func(e impl.Event) (impl.World, string) {
		made, code := plainWorldDo(w, e)
		return made, codeText(code)
	}
	if m := treeLine.FindStringSubmatch(line); m != nil {
		tree, ok := treeOfText(m[1])
		if !ok {
			return w, "what"
		}
		made, _ := impl.WorldNew(tree)
		return made, "ok"
	}
	if m := atLine.FindStringSubmatch(line); m != nil {
		op, ok := plainReadOp(m[2])
		if !ok {
			return w, "what"
		}
		return do(doAt(whole(m[1]), op))
	}
	if m := eventLine.FindStringSubmatch(line); m != nil {
		kinds := map[string]impl.Event{"sync": {Kind: 1}, "fold": {Kind: 6}, "deliver": {Kind: 2}, "drop": {Kind: 3}, "twice": {Kind: 4}}
		return do(impl.Event{Kind: kinds[m[1]].Kind, At: whole(m[2])})
	}
	if m := crashLine.FindStringSubmatch(line); m != nil {
		return do(impl.Event{Kind: impl.EvCrash, At: whole(m[1]), N: whole(m[2])})
	}
	if m := calmLine.FindStringSubmatch(line); m != nil {
		if rounds := whole(m[1]); rounds <= 30 {
			w = plainCalm(w, rounds)
		}
		return w, strconv.Itoa(len(w.Net))
	}
	if m := grantedLine.FindStringSubmatch(line); m != nil {
		return w, strconv.Itoa(plainGranted(w, m[1]))
	}
	switch audit := plainAudit(w); {
	case line == "net":
		return w, plainNet(w)
	case line == "told":
		return w, plainTold(w)
	case line == "audit" && audit == "":
		return w, "-"
	case line == "audit":
		return w, strings.ReplaceAll(audit, "\n", ";")
	}
	return w, "what"
}

func plainDesk(text string) string {
	if len(text) > 8000 || strings.Count(text, "\n") > 150 || text != "" && text[len(text)-1] != '\n' {
		return "long\n"
	}
	w, _ := impl.WorldNew(impl.Tree{Up: []int{-1}})
	answers := ""
	for line := range strings.Lines(text) {
		var answer string
		w, answer = plainLine(w, strings.TrimSuffix(line, "\n"))
		answers += answer + "\n"
	}
	return answers
}

func script(lines ...string) string { return strings.Join(append(lines, ""), "\n") }

// checkDesk holds what is told of a script against the plain reading, and gives the answers on.
func checkDesk(t *testing.T, text string) []string {
	t.Helper()
	got, want := impl.Desk(text), plainDesk(text)
	if got == want {
		return strings.Split(strings.TrimSuffix(got, "\n"), "\n")
	}
	lines, had, asked := strings.Split(text, "\n"), strings.Split(got, "\n"), strings.Split(want, "\n")
	for i := range min(len(lines), len(had), len(asked)) {
		if had[i] != asked[i] {
			t.Fatalf("line %d, %.200q, is answered %.300q, want %.300q, in\n%.2000s", i, lines[i], had[i], asked[i], text)
		}
	}
	t.Fatalf("Desk of %.2000q is %.2000q, want %.2000q", text, got, want)
	return nil
}

// checkBeginnings holds what is told of each beginning of a script against what is told of the whole.
func checkBeginnings(t *testing.T, text string) {
	t.Helper()
	whole := impl.Desk(text)
	for at := range text {
		if at > 0 && text[at-1] != '\n' {
			continue
		}
		part := impl.Desk(text[:at])
		if !strings.HasPrefix(whole, part) || strings.Count(part, "\n") != strings.Count(text[:at], "\n") {
			t.Fatalf("of the first %d bytes of %.1000q is told %.1000q, of all %.1000q", at, text, part, whole)
		}
	}
}

// story has each kind of line, and how it is answered.
func story() [][2]string {
	return [][2]string{
		{"net", "-"}, {"audit", "-"}, {"told", "-"}, {"calm 3", "0"}, {"granted a", "0"},
		{"at 0 mint zero 3", "done"}, {"sync 0", "done"}, {"told", "0:mint zero 3 done"}, {"audit", "zero minted 3 spent 0 free 3 way 0;"},
		{"tree 0 1 1", "ok"}, {"told", "-"}, {"audit", "-"},
		{"at 0 mint a 50", "done"}, {"at 0 mint b 1000000000", "done"}, {"at 1 mint a 5", "refused"}, {"at 0 mint b 1", "refused"},
		{"told", "-"}, {"sync 0", "done"}, {"told", "0:mint a 50 done;0:mint b 1000000000 done;0:mint b 1 refused"},
		{"at 0 want a 1", "refused"}, {"at 1 want a 20", "done"}, {"net", "-"}, {"sync 1", "done"}, {"net", "want 1 > 0 a 20"},
		{"twice 0", "done"}, {"net", "want 1 > 0 a 20;want 1 > 0 a 20"}, {"drop 1", "done"}, {"drop 1", "bad"}, {"twice 1", "bad"}, {"deliver 1", "bad"},
		{"deliver 0", "done"}, {"net", "-"}, {"audit", "a minted 50 spent 0 free 30 way 20;b minted 1000000000 spent 0 free 1000000000 way 0;"},
		{"sync 0", "done"}, {"net", "pay 0 > 1 1 1 a 20"}, {"deliver 0", "done"}, {"sync 1", "done"}, {"net", "ack 1 > 0 1"},
		{"audit", "a minted 50 spent 0 free 50 way 0;b minted 1000000000 spent 0 free 1000000000 way 0;"},
		{"at 1 admit 7 a 6", "done"}, {"at 1 admit 7 a 6", "done"}, {"at 1 admit 7 a 5", "refused"}, {"at 1 admit 8 a 15", "refused"}, {"granted a", "0"},
		{"fold 1", "done"}, {"crash 1 0", "done"}, {"at 1 admit 8 a 15", "done"}, {"at 1 release 7", "refused"}, {"crash 1 10", "done"},
		{"at 1 admit 8 a 14", "done"}, {"at 1 back a 4", "done"}, {"crash 1 999999999", "done"}, {"sync 1", "done"}, {"granted a", "0"},
		{"at 1 admit 8 a 13", "refused"}, {"at 1 admit 8 a 14", "done"}, {"at 1 admit 9 a 2", "done"}, {"sync 1", "done"}, {"granted a", "16"}, {"granted b", "0"},
		{"at 1 release 9", "done"}, {"granted a", "14"}, {"at 1 back a 9", "done"}, {"at 1 back a 1", "refused"}, {"at 1 tick", "done"},
		{"told", "0:mint a 50 done;0:mint b 1000000000 done;0:mint b 1 refused;1:mint a 5 refused;1:admit 8 a 13 refused;1:admit 8 a 14 done;1:admit 9 a 2 done"},
		{"at 2 want b 1000000000", "done"}, {"sync 2", "done"}, {"net", "ack 1 > 0 1;want 2 > 1 b 1000000000"}, {"calm 2", "0"}, {"net", "-"},
		{"audit", "a minted 50 spent 14 free 36 way 0;b minted 1000000000 spent 0 free 1000000000 way 0;"}, {"fold 0", "done"},
		{"tree", "ok"}, {"at 1 tick", "bad"}, {"audit", "-"}, {"told", "-"}, {"granted a", "0"},
	}
}

func storyText() string {
	var lines []string
	for _, c := range story() {
		lines = append(lines, c[0])
	}
	return script(lines...)
}

func TestDeskLineByLine(t *testing.T) {
	answers := checkDesk(t, storyText())
	for i, c := range story() {
		if answers[i] != c[1] {
			t.Errorf("line %d, %q, is answered %q, want %q", i, c[0], answers[i], c[1])
		}
	}
	checkBeginnings(t, storyText())
}

func TestWhatIsNoScript(t *testing.T) {
	for text, want := range map[string]string{
		"":                                   "",
		"\n":                                 "what\n",
		"\n\n\n":                             "what\nwhat\nwhat\n",
		" \n":                                "what\n",
		strings.Repeat(" ", 7999) + "\n":     "what\n",
		strings.Repeat(" ", 8000) + "\n":     "long\n",
		strings.Repeat("x", 7999) + "\n":     "what\n",
		strings.Repeat("x", 8000) + "\n":     "long\n",
		strings.Repeat("x", 8000):            "long\n",
		strings.Repeat("\n", 150):            strings.Repeat("what\n", 150),
		strings.Repeat("\n", 151):            "long\n",
		strings.Repeat("net\n", 150):         strings.Repeat("-\n", 150),
		strings.Repeat("net\n", 151):         "long\n",
		strings.Repeat("net\n", 150) + "net": "long\n",
		strings.Repeat("\n", 8000):           "long\n",
		strings.Repeat("\n", 8001):           "long\n",
		"net\n" + strings.Repeat("y", 7992) + "\nnet\n":  "long\n",
		"net\n" + strings.Repeat("y", 7991) + "\nnet":    "long\n",
		"net\n" + strings.Repeat("y", 7991) + "\nnet\n":  "-\nwhat\n-\n",
		"net\n" + strings.Repeat("y", 99990) + "\nnet\n": "long\n",
		"net":                                 "long\n",
		" ":                                   "long\n",
		"net\naudit":                          "long\n",
		"net\n ":                              "long\n",
		"net\r\n":                             "what\n",
		"net\n\r":                             "long\n",
		"net\x00\n":                           "what\n",
		"\x00\xff\xfe\n\x80\n":                "what\nwhat\n",
		"net\n\xc3\x28 \xf0\n\u2028\nnet\n":   "-\nwhat\nwhat\n-\n",
		"net\u00a0\nnet\t\n\tnet\nn\u0435t\n": "what\nwhat\nwhat\nwhat\n",
	} {
		if got := impl.Desk(text); got != want {
			t.Errorf("Desk of %.60q of %d bytes is %.60q, want %.60q", text, len(text), got, want)
		}
		checkDesk(t, text)
	}
}

// settled is a beginning behind which each of the lines of rightLines is done, or answered by what there is.
func settled() []string {
	return []string{"tree 0 0", "at 0 mint a 50", "at 1 want a 20", "sync 0", "sync 1", "deliver 0", "sync 0", "deliver 0", "sync 1",
		"at 1 admit 1 a 3", "at 1 admit 2 a 3", "sync 1", "at 2 want a 4", "at 2 want b 4", "sync 2", "at 1 admit 3 a 2"}
}

func rightLines() []string {
	return []string{"at 0 tick", "at 0 mint a 5", "at 1 admit 4 a 1", "at 1 release 1", "at 1 want a 7", "at 1 back a 2", "sync 1", "fold 2",
		"deliver 1", "drop 2", "twice 0", "crash 1 5", "calm 1", "net", "audit", "told", "granted a"}
}

// views tells all that can be told of a world.
func views() []string {
	return []string{"net", "audit", "told", "granted a", "granted b", "crash 1 0", "at 1 release 3", "at 2 tick", "at 3 tick", "calm 1", "audit", "told"}
}

// checkWhat asks for a line that is none, and leaves all as it was.
func checkWhat(t *testing.T, line string) {
	t.Helper()
	without := checkDesk(t, script(slices.Concat(settled(), views())...))
	with := checkDesk(t, script(slices.Concat(settled(), []string{line}, views())...))
	at := len(settled())
	if with[at] != "what" {
		t.Errorf("%q is answered %q", line, with[at])
	}
	if !slices.Equal(slices.Delete(with, at, at+1), without) {
		t.Errorf("%q is none, and changes something", line)
	}
}

func TestRightLines(t *testing.T) {
	for _, line := range rightLines() {
		answers := checkDesk(t, script(slices.Concat(settled(), []string{line}, views())...))
		if slices.Contains([]string{"what", "bad", "-"}, answers[len(settled())]) {
			t.Errorf("%q is answered %q", line, answers[len(settled())])
		}
	}
}

func TestLinesWithOtherWords(t *testing.T) {
	for _, line := range rightLines() {
		words := strings.Split(line, " ")
		for at := range words {
			checkWhat(t, strings.Join(slices.Delete(slices.Clone(words), at, at+1), " "))
			checkWhat(t, strings.Join(slices.Insert(slices.Clone(words), at, ""), " "))
			checkWhat(t, strings.Join(slices.Insert(slices.Clone(words), at+1, "x1"), " "))
			doubled := slices.Clone(words)
			doubled[at] += doubled[at] + "*"
			checkWhat(t, strings.Join(doubled, " "))
		}
		for _, behind := range []string{" ", "  ", " 0", " 1", " x", " a 1", " 1 a 1", ";", "\r", "\x00", " \xff", " net"} {
			checkWhat(t, line+behind)
		}
		checkWhat(t, " "+line)
		checkWhat(t, strings.ToUpper(line))
		checkWhat(t, strings.ReplaceAll(line+" ", " ", "\t"))
		checkWhat(t, strings.ReplaceAll(line+" ", " ", "  "))
	}
	for _, line := range []string{"", " ", "  ", "      ", "at", "at 0", "at 0 ", "sync", "fold", "deliver", "drop", "twice", "crash", "crash 0", "crash 0 ", "calm",
		"granted", "spoil 0", "what", "long", "ok", "done", "-", "0", "tick", "mint a 5", "hear", "netnet", "ne", "trees", "tree\x00", "tre", "Tree", "do 0 tick", "at0 tick", "sync0", "quit"} {
		checkWhat(t, line)
	}
}

// noNumbers has words that ReadDec does not read.
func noNumbers() []string {
	return []string{"", "00", "01", "007", "0000000001", "-1", "-0", "-", "+0", "+1", "1.0", "1e1", "0x1", "1_0", "a", "0a", "a0", "1\x00", "\x00", "\xff", "\u0661",
		"1000000001", "4294967296", "9999999999", "9223372036854775807", "9223372036854775808", "-9223372036854775808", "18446744073709551616",
		"18446744073709551617", "99999999999999999999999999999999", strings.Repeat("9", 1000), strings.Repeat("0", 100)}
}

func TestNumbersThatAreNone(t *testing.T) {
	for _, word := range append(noNumbers(), "1000000000") {
		for _, form := range []string{"at # tick", "at # mint a 1", "at # release 1", "sync #", "fold #", "deliver #", "drop #", "twice #", "crash # 0", "crash # 5", "crash 0 #", "crash 9 #",
			"crash # #", "calm #", "tree #", "tree 0 #", "tree # 0"} {
			// Behind tree and a blank the empty text is a tree.
			if line := strings.ReplaceAll(form, "#", word); line != "tree " {
				checkWhat(t, line)
			}
		}
	}
	for _, word := range append(noNumbers(), "0") {
		for _, form := range []string{"at 0 mint a #", "at 1 admit # a 1", "at 1 admit 4 a #", "at 1 admit # a #", "at 1 release #", "at 1 want a #", "at 1 back a #"} {
			checkWhat(t, strings.ReplaceAll(form, "#", word))
		}
	}
	for _, key := range []string{"", "A", "aB", "a-", "a_b", "-", "\xff", "\u00e4", "aaaaaaaaaaa", "01234567890", strings.Repeat("a", 1000)} {
		for _, form := range []string{"granted #", "at 0 mint # 1", "at 1 admit 4 # 1", "at 1 want # 1", "at 1 back # 1"} {
			checkWhat(t, strings.ReplaceAll(form, "#", key))
		}
	}
}

// askBehind tells how a line is answered behind others.
func askBehind(t *testing.T, line string, ahead ...string) string {
	t.Helper()
	answers := checkDesk(t, script(append(slices.Clone(ahead), line)...))
	return answers[len(answers)-1]
}

func TestTheGreatestAndTheLeastNumbers(t *testing.T) {
	ahead := []string{"tree 0", "at 0 mint a 1000000000", "at 1 want a 1000000000", "sync 1", "calm 1"}
	for line, want := range map[string]string{
		"at 0 mint b 1":                      "done",
		"at 0 mint b 1000000000":             "done",
		"at 0 mint 0123456789 1000000000":    "done",
		"at 0 mint a 1":                      "refused",
		"at 1 admit 1 a 1":                   "done",
		"at 1 admit 1000000000 a 1000000000": "done",
		"at 1 admit 1000000000 zzzzzzzzzz 1": "refused",
		"at 1 admit 999999999 a 999999999":   "done",
		"at 1 release 1":                     "refused",
		"at 1 release 1000000000":            "refused",
		"at 1 want zzzzzzzzzz 1000000000":    "done",
		"at 1 back a 1000000000":             "done",
		"at 1 back a 1":                      "done",
		"at 0 back a 1":                      "refused",
		"at 2 tick":                          "bad",
		"at 29 tick":                         "bad",
		"at 30 tick":                         "bad",
		"at 999999999 tick":                  "bad",
		"at 999999999 mint a 1000000000":     "bad",
		"at 2 hear":                          "what",
		"sync 0":                             "done",
		"sync 1":                             "done",
		"sync 2":                             "bad",
		"sync 999999999":                     "bad",
		"fold 2":                             "bad",
		"fold 999999999":                     "bad",
		"crash 0 0":                          "done",
		"crash 1 999999999":                  "done",
		"crash 2 0":                          "bad",
		"crash 30 5":                         "bad",
		"crash 999999999 999999999":          "bad",
		"deliver 0":                          "bad",
		"deliver 999999999":                  "bad",
		"drop 0":                             "bad",
		"drop 300":                           "bad",
		"twice 0":                            "bad",
		"twice 999999999":                    "bad",
		"calm 0":                             "0",
		"calm 30":                            "0",
		"calm 31":                            "0",
		"calm 999999999":                     "0",
		"granted 0123456789":                 "0",
		"granted zzzzzzzzzz":                 "0",
		"tree 0 0 0 0 0 0 0 0 0 0 0 0 0 0 0 0 0 0 0 0 0 0 0 0 0 0 0 0 0": "ok",
	} {
		if got := askBehind(t, line, ahead...); got != want {
			t.Errorf("%q is answered %q, want %q", line, got, want)
		}
	}
	if got := askBehind(t, "granted a", append(ahead, "at 1 admit 1000000000 a 1000000000", "sync 1")...); got != "1000000000" {
		t.Errorf("the greatest request is granted as %q", got)
	}
	if got := askBehind(t, "told", append(ahead, "at 1 admit 1000000000 a 1000000000", "sync 1")...); got != "0:mint a 1000000000 done;1:admit 1000000000 a 1000000000 done" {
		t.Errorf("the greatest request is told as %q", got)
	}
}

// TestARoundTooMany has frames on the way, which a calm of 31 rounds leaves there.
func TestARoundTooMany(t *testing.T) {
	ahead := []string{"tree 0 0", "at 1 want a 1", "at 2 want a 1", "sync 1", "sync 2"}
	for line, want := range map[string]string{"calm 0": "2", "calm 1": "0", "calm 30": "0", "calm 31": "2", "calm 999999999": "2"} {
		if got := askBehind(t, line, ahead...); got != want {
			t.Errorf("%q is answered %q, want %q", line, got, want)
		}
	}
}

// TestCrashesOfTheDesk has 11 bytes that are not safe, of a request: with fewer of them it is lost, and what was safe never is.
func TestCrashesOfTheDesk(t *testing.T) {
	ahead := []string{"at 0 mint a 50", "sync 0", "at 0 admit 8 a 15"}
	for keep, want := range map[string]string{"0": "0 free 50", "1": "0 free 50", "10": "0 free 50", "11": "15 free 35", "12": "15 free 35", "999999999": "15 free 35"} {
		answers := checkDesk(t, script(append(ahead, "crash 0 "+keep, "audit", "sync 0", "told", "granted a", "at 0 admit 8 a 15", "sync 0", "granted a")...))
		if got := answers[3:]; !slices.Equal(got, []string{"done", "a minted 50 spent " + want + " way 0;", "done", "0:mint a 50 done", "0", "done", "done", "15"}) {
			t.Errorf("of a crash with %s bytes is told %q", keep, got)
		}
	}
}

func TestTreesOfTheDesk(t *testing.T) {
	old := []string{"tree 0 0 0 0", "at 0 mint a 9", "at 4 want a 1", "sync 0", "sync 4"}
	views := []string{"net", "audit", "told", "at 0 tick", "at 1 tick", "at 2 tick", "at 5 tick", "at 29 tick"}
	for _, text := range []string{"tree", "tree "} {
		answers := checkDesk(t, script(slices.Concat(old, []string{text}, views)...))
		if got := answers[len(old):]; !slices.Equal(got, []string{"ok", "-", "-", "-", "done", "bad", "bad", "bad", "bad"}) {
			t.Errorf("behind %q it is %q", text, got)
		}
	}
	for _, tree := range rightTrees() {
		last := len(tree.Up) - 1
		lines := []string{"tree " + textOfTree(tree), "net", "audit", "told", fmt.Sprintf("at %d tick", last), fmt.Sprintf("at %d tick", last+1)}
		answers := checkDesk(t, script(append(old, lines...)...))
		if got := answers[len(old):]; !slices.Equal(got, []string{"ok", "-", "-", "-", "done", "bad"}) {
			t.Errorf("behind %q it is %q", lines[0], got)
		}
	}
	for _, text := range []string{"  ", " 1", " 0 2", " 0 1 3", " 0  1", "  0", " 0 ", " -1", " -1 0", " 00", " 0 01", " x", " 0 x", " 0,1", " 0;", "\t0", " 0\t1", " \x00", " \xff", " 0" + strings.Repeat(" 0", 29), strings.Repeat(" ", 31), " 999999999"} {
		answers := checkDesk(t, script(slices.Concat(old, []string{"tree" + text}, views)...))
		without := checkDesk(t, script(append(old, views...)...))
		if answers[len(old)] != "what" || !slices.Equal(slices.Delete(answers, len(old), len(old)+1), without) {
			t.Errorf("tree%q is answered %q, or changes something", text, answers[len(old)])
		}
	}
}

// TestEachOperationAtTheDesk has operations of every kind, right and not.
func TestEachOperationAtTheDesk(t *testing.T) {
	var lines []string
	for i, op := range rightOps() {
		text := impl.OpText(op)
		if op.Kind == impl.OpHear {
			if i%20 == 0 {
				checkWhat(t, "at 0 "+text)
			}
			continue
		}
		lines = append(lines, fmt.Sprintf("at %d %s", i%4, text))
	}
	for batch := range slices.Chunk(lines, 140) {
		for at, answer := range checkDesk(t, script(slices.Concat([]string{"tree 0 1", "at 0 mint k 500"}, batch, []string{"sync 0", "told", "audit"})...)) {
			if answer == "what" {
				t.Errorf("%q is answered what", batch[at-2])
			}
		}
	}
	none := map[string]bool{}
	for i, op := range rightOps() {
		if i%40 > 0 {
			continue
		}
		for _, changed := range changedOps(op) {
			text := loudText(changed)
			if _, ok := plainReadOp(text); !ok && len(text) < 1000 && !strings.Contains(text, "\n") {
				none[text] = true
			}
		}
	}
	for text := range none {
		checkWhat(t, "at 0 "+text)
	}
	if len(none) < 100 {
		t.Errorf("%d texts of no operation are few", len(none))
	}
	for _, text := range []string{"hear", "hear want 1 > 0 a 1", "hear pay 1 > 0 1 1 a 1", "hear ack 1 > 0 1", "tick tick", "ticks", "mint", "mint a", "mint 5 a", "admit a 1 1", "release", "release a", "spoil", "sync 0", "net"} {
		checkWhat(t, "at 0 "+text)
		checkWhat(t, "at 9 "+text)
	}
}

// loudText tells an operation as OpText does, without asking whether it is one.
func loudText(op impl.Op) string {
	switch op.Kind {
	case impl.OpMint, impl.OpWant, impl.OpBack:
		return fmt.Sprintf("%s %s %d", map[int]string{0: "mint", 3: "want", 4: "back"}[op.Kind], op.Key, op.N)
	case impl.OpAdmit:
		return fmt.Sprintf("admit %d %s %d", op.No, op.Key, op.N)
	case impl.OpRelease:
		return fmt.Sprintf("release %d", op.No)
	case impl.OpTick:
		return fmt.Sprintf("tick %s%d", op.Key, op.N)
	}
	return fmt.Sprintf("hear %s", impl.MsgText(op.Msg))
}

// crowd fills the net: 40 payments are said again and again, until there is no more room.
func crowd() []string {
	lines := []string{"tree 0", "at 0 mint a 1000", "sync 0"}
	lines = append(lines, slices.Repeat([]string{"at 1 want a 3"}, 40)...)
	lines = append(lines, "sync 1")
	lines = append(lines, slices.Repeat([]string{"deliver 0"}, 40)...)
	lines = append(lines, slices.Repeat([]string{"at 0 tick"}, 9)...)
	return append(lines, "net", "sync 0")
}

func TestMuchAtTheDesk(t *testing.T) {
	text := script(append(crowd(), "net", "calm 0", "audit", "twice 299", "twice 300", "drop 299", "calm 0", "twice 5", "calm 0", "net", "deliver 299", "calm 31", "calm 1", "audit", "net", "told")...)
	answers := checkDesk(t, text)
	for i, answer := range answers[len(crowd())-2:] {
		switch i {
		case 0:
			if answer != "-" {
				t.Errorf("ahead of the sync %.100q is on the way", answer)
			}
		case 2:
			list := strings.Split(answer, ";")
			if len(list) != 300 || list[0] != "pay 0 > 1 1 1 a 3" || list[39] != "pay 0 > 1 40 1 a 3" || list[40] != list[0] || list[299] != "pay 0 > 1 20 1 a 3" {
				t.Errorf("%d frames are on the way: %.200q", len(list), answer)
			}
		case 3, 10:
			if answer != "300" {
				t.Errorf("%s frames are on the way", answer)
			}
		case 4:
			if answer != "a minted 1000 spent 0 free 880 way 120;" {
				t.Errorf("the audit is %q", answer)
			}
		case 8:
			if answer != "299" {
				t.Errorf("%s frames are on the way", answer)
			}
		}
	}
	if got := answers[len(answers)-3:]; !slices.Equal(got, []string{"a minted 1000 spent 0 free 1000 way 0;", "-", "0:mint a 1000 done"}) {
		t.Errorf("at last it is %q", got)
	}
	checkBeginnings(t, text)

	var keys []string
	for i := range 21 {
		keys = append(keys, fmt.Sprintf("at 0 mint k%d %d", (i*8+3)%21, i+1))
	}
	for i := range 60 {
		keys = append(keys, fmt.Sprintf("at 0 admit %d k%d 1", i+1, i%21))
	}
	for i := range 60 {
		keys = append(keys, fmt.Sprintf("at 0 release %d", i+1))
	}
	answers = checkDesk(t, script(append(keys, "audit", "told", "sync 0", "audit", "told", "granted k3", "granted k5")...))
	if audit := answers[len(keys)]; strings.Count(audit, ";") != 20 || !strings.HasPrefix(audit, "k0 minted ") || !strings.HasSuffix(audit, ";") {
		t.Errorf("the audit of 20 keys is %q", audit)
	}
	if told := strings.Split(answers[len(keys)+4], ";"); len(told) != len(keys) || !strings.HasSuffix(told[81], "release 1 stale") || !strings.HasSuffix(told[len(told)-1], "release 60 done") || told[20] != "0:mint k16 21 refused" {
		t.Errorf("what was told is %q", told)
	}
}

// TestAllCodesAtTheDesk asks for each word of a code, by lines and as told.
func TestAllCodesAtTheDesk(t *testing.T) {
	ahead := []string{"at 0 mint a 100"}
	for i := range 31 {
		ahead = append(ahead, fmt.Sprintf("at 0 admit %d a 1", i+2))
	}
	for line, want := range map[string]string{"at 0 admit 3 a 1": "done", "at 0 admit 3 a 2": "refused", "at 0 admit 2 a 1": "stale", "at 0 release 2": "stale", "at 0 release 1": "stale", "at 1 release 3": "bad"} {
		if got := askBehind(t, line, ahead...); got != want {
			t.Errorf("%q is answered %q, want %q", line, got, want)
		}
		told := askBehind(t, "told", append(slices.Clone(ahead), line, "sync 0")...)
		if isTold := strings.HasSuffix(told, strings.TrimPrefix(line, "at 0 ")+" "+want); isTold != (want != "bad") {
			t.Errorf("%q is told as %q", line, told)
		}
	}
}

func TestGrantedAtTheDesk(t *testing.T) {
	ahead := []string{"at 0 mint a 9", "at 0 mint 0 9", "at 0 admit 1 a 2", "at 0 admit 2 a 3", "at 0 admit 3 0 4", "at 0 admit 4 a 5", "sync 0"}
	for line, want := range map[string]string{
		"granted a": "5", "granted 0": "4", "granted b": "0", "granted aa": "0", "granted 00": "0", "granted a0": "0", "granted 1": "0", "granted zzzzzzzzzz": "0",
		"granted": "what", "granted ": "what", "granted  ": "what", "granted A": "what", "granted a ": "what", "granted  a": "what", "granted a a": "what", "granted a 0": "what",
		"granted zzzzzzzzzzz": "what", "granted -1": "what", "granted a;": "what", "granted \xff": "what", "granted a\x00": "what", "granted \u00e4": "what",
	} {
		if got := askBehind(t, line, ahead...); got != want {
			t.Errorf("%q is answered %q, want %q", line, got, want)
		}
	}
	for line, want := range map[string]string{"at 0 release 1": "3", "at 0 release 3": "5", "at 0 release 4": "5", "at 0 admit 1 a 2": "5"} {
		if got := askBehind(t, "granted a", append(slices.Clone(ahead), line, "sync 0")...); got != want {
			t.Errorf("behind %q %q are granted, want %q", line, got, want)
		}
	}
}

func checkReadOp(t *testing.T, s string) (impl.Op, bool) {
	t.Helper()
	want, wantOk := plainReadOp(s)
	got, ok := impl.ReadOp(s)
	if got != want || ok != wantOk {
		t.Fatalf("ReadOp(%.100q) = %s, %v, want %s, %v", s, shown(got), ok, shown(want), wantOk)
	}
	return got, ok
}

func TestReadOpOfEachText(t *testing.T) {
	for _, op := range rightOps() {
		got, ok := checkReadOp(t, impl.OpText(op))
		if op.Kind == impl.OpHear {
			if ok || got != (impl.Op{}) {
				t.Fatalf("%q is read", impl.OpText(op))
			}
			continue
		}
		if !ok || got != op {
			t.Fatalf("%s is read as %s, %v", shown(op), shown(got), ok)
		}
	}
	for i, op := range rightOps() {
		if i%7 > 0 {
			continue
		}
		for _, changed := range changedOps(op) {
			text := loudText(changed)
			if _, ok := checkReadOp(t, text); ok && impl.OpText(opOfText(text)) != text {
				t.Fatalf("%q is read", text)
			}
		}
	}
	for _, text := range []string{"mint a 1", "mint 0123456789 1000000000", "admit 1 a 1", "admit 1000000000 zzzzzzzzzz 1000000000", "release 1", "release 1000000000", "want a 1000000000", "back z9 999999999", "tick"} {
		if op, ok := checkReadOp(t, text); !ok || impl.OpText(op) != text {
			t.Errorf("%q is read as %s, %v", text, shown(op), ok)
		}
	}
	for _, text := range []string{"", " ", "  ", "mint", "mint ", "mint a", "mint a ", "mint  1", "mint a 0", "mint a -1", "mint a 01", "mint a 1000000001", "mint a 10000000000", "mint a 1 ", "mint a 1 1", " mint a 1", "mint  a 1",
		"mint a  1", "mint 1 a 1", "MINT a 1", "mint A 1", "mint aaaaaaaaaaa 1", "mint a 1\n", "\nmint a 1", "mint\ta\t1", "admit", "admit 1", "admit 1 a", "admit a 1", "admit 0 a 1", "admit 1 a 0", "admit 1 a 1 1", "admit 01 a 1",
		"admit 1000000001 a 1", "admit -1 a 1", "admit 1  1", "release", "release ", "release 0", "release 00", "release 1 1", "release 1 a 1", "release 1000000001", "release -1", "release a", "tick ", " tick", "tick 0", "tick 1",
		"tick a 1", "tick tick", "Tick", "ticks", "hear", "hear ", "hear tick", "hear want 1 > 0 a 1", "hear pay 1 > 0 1 1 a 1", "hear ack 1 > 0 1", "want 1 > 0 a 1", "pay 1 > 0 1 1 a 1", "ack 1 > 0 1", "mintwant a 1", "sync 0", "\x00", "\xff",
		"mint \xff 1", "mint a \xff", "mint a 9223372036854775808", "mint a 18446744073709551617", "release 18446744073709551617", strings.Repeat("mint ", 10000), "mint a " + strings.Repeat("1", 10000), "mint " + strings.Repeat("a", 10000) + " 1"} {
		if op, ok := checkReadOp(t, text); ok || op != (impl.Op{}) {
			t.Errorf("%.60q is read as %s, %v", text, shown(op), ok)
		}
	}
}

// TestReadOpOfTextsThatDifferByOneByte puts each byte for another, leaves it out, and lays another one ahead of it.
func TestReadOpOfTextsThatDifferByOneByte(t *testing.T) {
	read := 0
	for _, text := range []string{"tick", "mint a 1", "mint key1 1000000000", "admit 7 a 10", "admit 1000000000 k 999999999", "release 1", "release 1000000000", "want ab 12", "back 0123456789 5", "hear want 1 > 0 a 1", "hear ack 1 > 0 1"} {
		for at := range len(text) + 1 {
			var near []string
			for b := range 256 {
				near = append(near, text[:at]+string([]byte{byte(b)})+text[at:])
				if at < len(text) {
					near = append(near, withByte(text, at, b))
				}
			}
			if at < len(text) {
				near = append(near, text[:at]+text[at+1:])
			}
			for _, s := range near {
				op, ok := checkReadOp(t, s)
				if ok != (impl.OpText(op) == s) {
					t.Fatalf("%q is read as %s, %v", s, shown(op), ok)
				}
				if ok {
					read++
				}
			}
		}
	}
	if read < 100 {
		t.Errorf("%d texts beside others that are read are few", read)
	}
}

// line chooses a line; of ten one is mostly none.
func (c *chooser) line(nodes int) string {
	at, key, n := c.below(nodes), "k"+strconv.Itoa(c.below(3)), 1+c.below(20)
	line := ""
	switch kind := c.below(40); {
	case kind < 4:
		line = fmt.Sprintf("at 0 mint %s %d", key, 2*n)
	case kind < 11:
		line = fmt.Sprintf("at %d want %s %d", at, key, n)
	case kind < 15:
		line = fmt.Sprintf("at %d admit %d %s %d", at, 1+c.below(40), key, 1+n/4)
	case kind < 17:
		line = fmt.Sprintf("at %d release %d", at, 1+c.below(40))
	case kind < 18:
		line = fmt.Sprintf("at %d back %s %d", at, key, n)
	case kind < 19:
		line = fmt.Sprintf("at %d tick", at)
	case kind < 26:
		line = fmt.Sprintf("sync %d", at)
	case kind < 31:
		line = fmt.Sprintf("deliver %d", c.below(3))
	case kind < 36:
		line = fmt.Sprintf("%s %d", []string{"drop", "twice", "twice", "fold", "calm"}[kind-31], c.below(4))
	case kind < 37:
		line = fmt.Sprintf("crash %d %d", at, c.below(80))
	case kind < 39:
		line = []string{"net", "audit", "told", "granted " + key}[c.below(4)]
	case c.below(6) == 0:
		line = "tree" + strings.Repeat(" 0", c.below(4))
	}
	if c.below(10) > 0 || line == "" {
		return line
	}
	place := c.below(len(line))
	switch c.below(3) {
	case 0:
		return withByte(line, place, []int{'0', '1', ' ', 'a', '-', 0, 255}[c.below(7)])
	case 1:
		return line[:place] + line[place+1:]
	}
	return line[:place] + []string{"0", "1", " ", "9", "a", "\xff"}[c.below(6)] + line[place:]
}

// TestScriptsOfManyLines holds chosen scripts against the plain reading, and their beginnings against them.
func TestScriptsOfManyLines(t *testing.T) {
	times := map[string]int{}
	for start := range uint32(120) {
		c := &chooser{start*2654435761 + 5}
		nodes := 1 + c.below(6)
		lines := []string{"tree " + textOfTree(treeBy(nodes, c.below))}
		for range 20 + c.below(110) {
			lines = append(lines, c.line(nodes))
		}
		text := script(append(lines, "net", "audit", "told", "granted k0", "calm 5", "audit")...)
		for _, answer := range checkDesk(t, text) {
			times[answer]++
			if strings.ContainsAny(answer, ";:>") {
				times["much"]++
			}
		}
		checkBeginnings(t, text)
	}
	for _, answer := range []string{"ok", "what", "done", "refused", "bad", "-", "0", "much"} {
		if times[answer] < 15 {
			t.Errorf("%s came %d times only", answer, times[answer])
		}
	}
}

// TestLinesBehindAScript has each kind of line, and what is none, behind others.
func TestLinesBehindAScript(t *testing.T) {
	begin := script(settled()...)
	told := impl.Desk(begin)
	for _, line := range slices.Concat(rightLines(), views(), settled(), []string{"", " ", "what", "tree", "tree x", "\xff", "crash 0 x", strings.Repeat("z", 5000)}) {
		for _, more := range []string{line + "\n", line + "\nnet\naudit\ntold\n", strings.Repeat(line[:min(len(line), 40)]+"\n", 100)} {
			whole := impl.Desk(begin + more)
			if rest, ok := strings.CutPrefix(whole, told); !ok || strings.Count(rest, "\n") != strings.Count(more, "\n") {
				t.Fatalf("with %.60q behind it, is told %.500q, without %.500q", more, whole, told)
			}
		}
	}
}

// TestDesksAreAlwaysTheSame asks for the same scripts from several sides at once.
func TestDesksAreAlwaysTheSame(t *testing.T) {
	texts := []string{storyText(), script(crowd()...), script(slices.Concat(settled(), views())...), "", "net", "net\n"}
	var want []string
	for _, text := range texts {
		want = append(want, plainDesk(text))
	}
	failed := make(chan string)
	for range 8 {
		go func() {
			wrong := ""
			for round := range 12 {
				at := round % len(texts)
				if got := impl.Desk(texts[at]); got != want[at] {
					wrong = got
				}
			}
			failed <- wrong
		}()
	}
	for range 8 {
		if got := <-failed; got != "" {
			t.Errorf("asked from several sides, it is %.500q", got)
		}
	}
}

// TestGreatScriptsAnswerSoon has 30 nodes that are calmed as often as a script can tell.
func TestGreatScriptsAnswerSoon(t *testing.T) {
	for _, tree := range []impl.Tree{starOf(30), chainOf(30)} {
		lines := []string{"tree " + textOfTree(tree), "at 0 mint a 1000000000"}
		for at := range 20 {
			lines = append(lines, fmt.Sprintf("at %d want a %d", at+1, at+1), fmt.Sprintf("sync %d", at+1))
		}
		lines = append(lines, slices.Repeat([]string{"calm 30"}, 149-len(lines))...)
		answers := strings.Split(impl.Desk(script(append(lines, "audit")...)), "\n")
		if answers[148] != "0" || answers[149] != "a minted 1000000000 spent 0 free 1000000000 way 0;" {
			t.Errorf("at last it is %q", answers[148:])
		}
	}
}
