package tests

import (
	"slices"
	"strconv"
	"strings"
	"testing"

	"loop.example/g03001/impl"
)

// start40 is what the line "new" makes of any browser.
func start40() impl.Browser {
	return impl.Browser{Key: 5, Tabs: tabs40()}
}

func tabs40() []impl.Tab {
	return []impl.Tab{
		{Site: impl.Site{Owner: 1}, Base: []impl.Node{{Parent: -1}, {Id: 1, Tag: 1, Text: 5}, {Id: 2, Parent: 1, Tag: 3, Text: 7}}, Hidden: []int{3}, Click: -1},
		{Site: impl.Site{Owner: 2}, Base: []impl.Node{{Parent: -1}}, Hidden: []int{3}, Click: -1},
	}
}

func package40(n int, version int, until int) impl.Package {
	p := impl.Package{Ext: n, Author: 1, Version: version}
	kinds := [][]int{nil, {1, 2}, {3}, {1, 3, 4}}
	if n < 1 || n > 3 {
		return impl.Package{}
	}
	for _, kind := range kinds[n] {
		p.Grants = append(p.Grants, impl.Grant{Ext: n, Pattern: everywhere, Kind: kind, Until: until})
	}
	if n == 2 {
		p.Rules = []impl.Rule{
			{Ext: 2, Prio: 1, Pattern: impl.Pattern{Owner: 3, Sub: -1}, Sort: 2, Action: impl.AcBlock},
			{Ext: 2, Prio: 1, Pattern: impl.Pattern{Owner: 2, Sub: -1}, Sort: 1, Action: impl.AcSend, To: impl.Site{Owner: 1}},
		}
	}
	if n == 3 {
		p.Flows = []impl.Flow{{Ext: 3, From: 1, To: 2}}
		p.Ops = []impl.Op{step(impl.OpRead, 0, 1), step(impl.OpConst, 1, 7), step(impl.OpAdd, 2, 0, 1), step(impl.OpSend, 2, 2), step(impl.OpSend, 2, 1)}
	}
	p.Seal = impl.KeyedHash(5, ints26(p))
	return p
}

func TestExamples(t *testing.T) {
	if got := impl.ExampleTabs(); !alike(got, tabs40()) || !slices.ContainsFunc(got, impl.IsTab) {
		t.Errorf("ExampleTabs = %+v", got)
	}
	for n := -3; n <= 12; n++ {
		got := impl.ExamplePackage(n)
		if !alike(got, package40(n, 1, 50)) {
			t.Errorf("ExamplePackage(%d) = %+v", n, got)
		}
		want := impl.RvForm
		if 1 <= n && n <= 3 {
			want = impl.RvFine
		}
		if impl.ReviewPackage(5, got) != want {
			t.Errorf("the review of %d: %d", n, impl.ReviewPackage(5, got))
		}
	}
	keeps(t, "ExampleTabs", impl.ExampleTabs)
	for n := range 4 {
		keeps(t, "ExamplePackage", impl.ExamplePackage, n)
	}
}

// console40 says by other means what a line makes of a browser, and what it answers.
func console40(b impl.Browser, line string) (impl.Browser, string) {
	words := slices.DeleteFunc(strings.Split(line, " "), func(s string) bool { return s == "" })
	if len(line) > 200 || len(words) == 0 {
		return b, "what"
	}
	n := []int{}
	for _, w := range words[1:] {
		x, err := strconv.Atoi(w)
		if err != nil || strconv.Itoa(x) != w || x < 0 || x > 1000000000000 {
			return b, "what"
		}
		n = append(n, x)
	}
	done := func(c impl.Browser, ok bool) (impl.Browser, string) {
		if !ok {
			return b, "no"
		}
		return c, "ok"
	}
	edit := func(e impl.Edit) (impl.Browser, string) {
		if n[1] == 0 {
			return done(impl.PageEdit(b, n[0], e))
		}
		return done(impl.WriteTab(b, n[1], n[0], e))
	}
	switch words[0] + " " + strconv.Itoa(len(n)) {
	case "new 0":
		return start40(), "ok"
	case "install 1":
		return done(impl.StepInstall(b, package40(n[0], 1, 50)))
	case "widen 2":
		return done(impl.StepUpdate(b, package40(n[0], 2, 60), n[1] == 1))
	case "remove 1":
		return done(impl.StepRemove(b, n[0]))
	case "deny 2":
		return done(impl.StepLimit(b, impl.Limit{Ext: n[0], Pattern: everywhere, Kind: n[1]}))
	case "click 2":
		return done(impl.StepClick(b, n[0], n[1]))
	case "go 3":
		return done(impl.StepGo(b, n[0], impl.Site{Owner: n[1], Sub: n[2]}))
	case "tick 1":
		return done(impl.StepTick(b, n[0]))
	case "add 4":
		return edit(impl.Edit{Kind: impl.EdAdd, Node: n[2], Parent: n[3], Tag: 1, Text: 9})
	case "text 4":
		return edit(impl.Edit{Kind: impl.EdText, Node: n[2], Text: n[3]})
	case "store 4":
		return done(impl.StoreFor(b, n[0], n[1], n[2], n[3]))
	case "doc 1":
		if n[0] >= len(b.Tabs) {
			return b, "no"
		}
		return b, impl.DocumentText(impl.RunEdits(b.Tabs[n[0]].Base, b.Tabs[n[0]].Edits))
	case "sees 2":
		return b, impl.DocumentText(impl.ReadTab(b, n[0], n[1]))
	case "ask 3":
		return b, impl.OutcomeText(impl.AskPage(b, impl.Request{Site: impl.Site{Owner: n[0], Sub: n[1]}, Sort: n[2]}))
	case "sent 2":
		return b, impl.SentText(impl.SentFrom(b, n[0], []int{n[1]}))
	case "powers 3":
		return b, impl.FormatList(impl.PowersOf(b, n[0], impl.Site{Owner: n[1], Sub: n[2]}))
	case "traces 1":
		return b, strconv.Itoa(impl.TracesOf(b, n[0]))
	case "clash 1":
		return b, strconv.Itoa(impl.ClashCount(b.Rules, n[0]))
	case "show 0":
		return b, impl.FormatBrowser(b)
	case "grants 0":
		s := words39(b.Grants, ", ", impl.GrantText)
		if s == "" {
			s = "-"
		}
		return b, s
	case "audit 0":
		s := impl.FaultOf(b)
		if s == "" {
			s = "ok"
		}
		return b, s
	}
	return b, "what"
}

// arities40 says how many numbers stand behind each word.
func arities40() map[string]int {
	return map[string]int{
		"new": 0, "install": 1, "widen": 2, "remove": 1, "deny": 2, "click": 2, "go": 3, "tick": 1, "add": 4, "text": 4, "store": 4,
		"doc": 1, "sees": 2, "ask": 3, "sent": 2, "powers": 3, "traces": 1, "clash": 1, "show": 0, "grants": 0, "audit": 0,
	}
}

func words40() []string {
	l := []string{}
	for word := range arities40() {
		l = append(l, word)
	}
	slices.Sort(l)
	return l
}

// someLine returns a line that is mostly right.
func someLine(roll func(n int) int) string {
	word := words40()[roll(21)]
	if roll(3) == 0 {
		word = []string{"install", "click", "add", "text", "store", "widen"}[roll(6)]
	}
	line := word
	arity := arities40()[word]
	if roll(25) == 0 {
		arity = roll(6)
	}
	for range arity {
		line += strings.Repeat(" ", 1+roll(20)/19) + strconv.Itoa([]int{0, 1, 1, 2, 3, roll(12), roll(120)}[roll(7)])
	}
	return strings.Repeat(" ", roll(20)/18) + line + strings.Repeat(" ", roll(20)/18)
}

// browsers40 has browsers of all kinds for the console.
func browsers40() []impl.Browser {
	return []impl.Browser{{}, start40(), browser32(), full32(), act33(all33()...), sound37(), {Tabs: []impl.Tab{{}}, Grants: []impl.Grant{{}}}, {Grants: []impl.Grant{{}, grant10, {}}}}
}

// TestTheConsoleAnswersEveryLine speaks with browsers at random.
func TestTheConsoleAnswersEveryLine(t *testing.T) {
	roll := dice(40)
	answers := map[string]int{}
	for range 300 {
		b := browsers40()[roll(len(browsers40()))]
		if roll(3) > 0 {
			b = start40()
		}
		for range 40 {
			line := someLine(roll)
			want, answer := console40(b, line)
			got, s := impl.ConsoleLine(b, line)
			if s != answer || !alike(got, want) {
				t.Fatalf("%q to %+v: %+v, %q, want %+v, %q", line, b, got, s, want, answer)
			}
			answers[s]++
			b = got
		}
	}
	if answers["ok"] < 1000 || answers["no"] < 1000 || answers["what"] < 100 || len(answers) < 100 {
		t.Errorf("%d answers, ok %d, no %d, what %d", len(answers), answers["ok"], answers["no"], answers["what"])
	}
}

// TestEveryWordWithEveryNumberOfNumbers writes each word with more and fewer numbers than it takes.
func TestEveryWordWithEveryNumberOfNumbers(t *testing.T) {
	for _, b := range browsers40() {
		for _, word := range words40() {
			for n := range 7 {
				line := word + strings.Repeat(" 1", n)
				want, answer := console40(b, line)
				got, s := impl.ConsoleLine(b, line)
				if s != answer || !alike(got, want) || (s == "what") != (n != arities40()[word]) {
					t.Errorf("%q: %q, want %q", line, s, answer)
				}
			}
		}
	}
}

// TestWordsThatLookLikeNumbers puts words that are numbers or not at each place of each line.
func TestWordsThatLookLikeNumbers(t *testing.T) {
	b, _ := impl.ConsoleLine(start40(), "install 1")
	words := map[string]bool{
		"0": true, "1": true, "999": true, "1000000000000": true, "1000000000001": false, "9223372036854775808": false, "18446744073709551617": false,
		"00": false, "01": false, "-1": false, "+1": false, "-0": false, "1.0": false, "1e1": false, "0x1": false, "1_0": false, "one": false, "new": false,
		"1\t": false, "\t1": false, "1,": false, "1\n": false, "\u0661": false, "\uff11": false, "\xff": false, "1\x00": false, "\u00a01": false, "*": false,
	}
	for _, word := range words40() {
		arity := arities40()[word]
		for at := range arity {
			for w, isNumber := range words {
				numbers := slices.Repeat([]string{"1"}, arity)
				numbers[at] = w
				line := word + " " + strings.Join(numbers, " ")
				want, answer := console40(b, line)
				got, s := impl.ConsoleLine(b, line)
				if s != answer || !alike(got, want) || (s == "what") == isNumber || !isNumber && !alike(got, b) {
					t.Errorf("%q: %q, want %q", line, s, answer)
				}
			}
		}
	}
	for _, line := range []string{"", " ", "     ", "1", "0 1", "NEW", "New", "ne", "news", "new\t", "\tnew", "new\n", "new\r", "install\t1", "install1", "new,", "what", "ok", "no", "\x00", "n\u0435w", "new new", "show show", "tick one"} {
		if got, s := impl.ConsoleLine(b, line); s != "what" || !alike(got, b) {
			t.Errorf("%q: %q", line, s)
		}
	}
	for _, line := range []string{"new", " new", "new ", "   new   "} {
		if got, s := impl.ConsoleLine(browser32(), line); s != "ok" || !alike(got, start40()) {
			t.Errorf("%q: %q", line, s)
		}
	}
	if got, s := impl.ConsoleLine(b, "  doc    0 "); s != "0<-1:0.0@0 1<0:1.5@0 2<1:3.7@0" || !alike(got, b) {
		t.Errorf("%q", s)
	}
}

func TestLinesUpToTheLimits(t *testing.T) {
	if impl.MaxLines != 60 || impl.MaxLineLen != 200 {
		t.Error(impl.MaxLines, impl.MaxLineLen)
	}
	for n := 195; n <= 205; n++ {
		for _, line := range []string{"new" + strings.Repeat(" ", n-3), strings.Repeat(" ", n-3) + "new", strings.Repeat(" ", n-4) + "new "} {
			got, s := impl.ConsoleLine(impl.Browser{}, line)
			if n <= 200 && (s != "ok" || !alike(got, start40())) || n > 200 && (s != "what" || !isZero(got)) {
				t.Errorf("%d bytes: %q", n, s)
			}
		}
	}
	// Bytes count, not characters.
	if _, s := impl.ConsoleLine(impl.Browser{}, strings.Repeat("\u00e4", 101)+" new"); s != "what" {
		t.Error(s)
	}
	for n := range 70 {
		for _, end := range []string{"", "\n"} {
			text := strings.TrimSuffix(strings.Repeat("show\n", n), "\n") + end
			lines := max(n, len(end))
			out, ok := impl.RunConsole(text)
			if ok != (lines <= 60) || ok && len(out) != lines || !ok && out != nil {
				t.Errorf("%d lines and %q: %d, %v", n, end, len(out), ok)
			}
		}
		if out, ok := impl.RunConsole(strings.Repeat("\n", n)); ok != (n <= 60) || ok && len(out) != n || !ok && out != nil {
			t.Errorf("%d empty lines: %d, %v", n, len(out), ok)
		}
	}
}

func TestRunConsole(t *testing.T) {
	for text, want := range map[string][]string{
		"":                    {},
		"\n":                  {"what"},
		"\n\n":                {"what", "what"},
		"new":                 {"ok"},
		"new\n":               {"ok"},
		"new\n\n":             {"ok", "what"},
		"\nnew":               {"what", "ok"},
		"new\r\nshow":         {"what", "0 - 0 0 0 0"},
		"show\nnew\nshow":     {"0 - 0 0 0 0", "ok", "0 - 0 0 0 0"},
		"new\ninstall 1\nnew": {"ok", "ok", "ok"},
		"grants\naudit\nnew\naudit\ngrants\ninstall 2\ngrants\ntraces 2": {"-", "browser", "ok", "ok", "-", "ok", "2:n*/* 0-50", "4"},
		"new\nadd 0 0 4 1\ntext 0 0 4 999\ntext 0 0 4 1000\nadd 0 0 4 1\nadd 1 0 1 0\nadd 2 0 1 0\ndoc 0\ndoc 1\ndoc 2": {
			"ok", "ok", "ok", "no", "no", "ok", "no", "0<-1:0.0@0 1<0:1.5@0 2<1:3.7@0 4<1:1.999@0", "0<-1:0.0@0 1<0:1.9@0", "no",
		},
		"new\ninstall 3\nsent 3 5\nsent 3 999\nsent 3 1000\ndeny 3 1\nsent 3 5\ndeny 0 3\nsent 3 5\npowers 3 9 9\npowers 3 0 0": {
			"ok", "ok", "2=12[1] 1=12[1]", "2=6[1] 1=6[1]", "2=7[1] 1=7[1]", "ok", "2=7[1] 1=7[1]", "ok", "-", "4", "-",
		},
		"new\ninstall 1\nwiden 1 0\nwiden 1 2\nwiden 1 1\nwiden 1 1\nwiden 2 1\nwiden 0 1\ngrants": {
			"ok", "ok", "no", "no", "ok", "no", "no", "no", "1:r*/* 0-60, 1:w*/* 0-60",
		},
		"new\ninstall 2\nask 2 0 1\nask 3 0 2\nask 3 0 3\nask 1 0 5\nask 10 0 1\ndeny 2 3\nask 2 0 1\nclash 2\nclash 0": {
			"ok", "ok", "done 2/0 1/0", "blocked 3/0", "done 3/0", "no", "no", "ok", "done 2/0", "0", "0",
		},
	} {
		got, ok := impl.RunConsole(text)
		if !ok || !slices.Equal(got, want) {
			t.Errorf("RunConsole(%q) = %q, %v, want %q", text, got, ok, want)
		}
	}
	roll := dice(400)
	for range 60 {
		lines, want := []string{}, []string{}
		var b impl.Browser
		for range 1 + roll(60) {
			line := someLine(roll)
			var s string
			b, s = console40(b, line)
			lines, want = append(lines, line), append(want, s)
		}
		if got, ok := impl.RunConsole(strings.Join(lines, "\n")); !ok || !slices.Equal(got, want) {
			t.Errorf("RunConsole(%q) = %q, %v, want %q", lines, got, ok, want)
		}
	}
}

func TestTheConsoleKeepsItsArguments(t *testing.T) {
	for _, b := range browsers40() {
		for _, word := range words40() {
			keeps(t, word, impl.ConsoleLine, b, word+strings.Repeat(" 1", arities40()[word]))
			keeps(t, word, impl.ConsoleLine, b, word+strings.Repeat(" 0", arities40()[word]))
		}
		keeps(t, "no line", impl.ConsoleLine, b, "")
		keeps(t, "no word", impl.ConsoleLine, b, "what 1")
	}
	keeps(t, "RunConsole", impl.RunConsole, "new\nshow")
	keeps(t, "RunConsole", impl.RunConsole, "")
}
