package tests

import (
	"math"
	"slices"
	"strconv"
	"strings"
	"testing"

	"loop.example/g03001/impl"
)

// words39 joins texts with something between them, or returns "-" if there are none.
func words39[T any](l []T, between string, text func(T) string) string {
	words := []string{}
	for _, x := range l {
		words = append(words, text(x))
	}
	if len(words) == 0 {
		return "-"
	}
	return strings.Join(words, between)
}

// label39 says by other means what the text of a label is.
func label39(x int) string {
	owners, _ := owners19(x)
	return words39(owners, "+", strconv.Itoa)
}

func star39(n int, all int) string {
	if n == all {
		return "*"
	}
	return strconv.Itoa(n)
}

func TestFormatList(t *testing.T) {
	for want, l := range map[string][]int{
		"-": nil, "0": {0}, "3 -1": {3, -1}, "-1": {-1}, "0 0 0": {0, 0, 0}, "5 4 3 2 1": {5, 4, 3, 2, 1},
		"9223372036854775807 -9223372036854775808": {math.MaxInt, math.MinInt},
	} {
		if got := impl.FormatList(l); got != want {
			t.Errorf("FormatList(%v) = %q", l, got)
		}
	}
	if got := impl.FormatList([]int{}); got != "-" {
		t.Errorf("of an empty list: %q", got)
	}
	for n := range 300 {
		l := slices.Repeat([]int{n}, n)
		if got := impl.FormatList(l); got != words39(l, " ", strconv.Itoa) {
			t.Errorf("of %d numbers: %q", n, got)
		}
	}
}

func TestSiteText(t *testing.T) {
	for _, s := range allSites() {
		if got := impl.SiteText(s); got != strconv.Itoa(s.Owner)+"/"+strconv.Itoa(s.Sub) {
			t.Errorf("SiteText(%+v) = %q", s, got)
		}
	}
	for _, s := range notSites {
		if got := impl.SiteText(s); got != "" {
			t.Errorf("SiteText(%+v) = %q", s, got)
		}
	}
}

// TestOutcomesWithoutAPath have their names alone.
func TestOutcomesWithoutAPath(t *testing.T) {
	names := map[int]string{1: "done", 2: "blocked", 3: "loop", 4: "long"}
	for _, code := range []int{math.MinInt, -1, 0, 1, 2, 3, 4, 5, 6, math.MaxInt} {
		want := names[code]
		if want == "" {
			want = "no"
		}
		for _, path := range [][]impl.Site{nil, {}} {
			if got := impl.OutcomeText(impl.Outcome{Code: code, Site: impl.Site{Owner: 4}, Path: path}); got != want {
				t.Errorf("the code %d: %q", code, got)
			}
		}
		with := want
		if want != "no" {
			with += " 1/0 9/9 1/0 2/3"
		}
		if got := impl.OutcomeText(impl.Outcome{Code: code, Path: []impl.Site{{Owner: 1}, {Owner: 9, Sub: 9}, {Owner: 1}, {Owner: 2, Sub: 3}}}); got != with {
			t.Errorf("the code %d: %q", code, got)
		}
		if want != "no" {
			with = want + "  3/0 "
		}
		// What is no site has no text, but its space.
		if got := impl.OutcomeText(impl.Outcome{Code: code, Path: []impl.Site{{}, {Owner: 3}, {Owner: 10}}}); got != with {
			t.Errorf("the code %d: %q", code, got)
		}
	}
	roll := dice(390)
	for range 500 {
		l := someRules(roll, 6)
		q := requests()[roll(len(requests()))]
		o := follows(l, q)
		want := "no"
		if o.Code != 0 {
			want = names[o.Code] + " " + words39(o.Path, " ", impl.SiteText)
		}
		if got := impl.OutcomeText(o); got != want {
			t.Errorf("OutcomeText(%+v) = %q", o, got)
		}
	}
}

func TestSentText(t *testing.T) {
	for want, l := range map[string][]impl.Sent{
		"-":                        nil,
		"2=5[1+3] 9=7[-]":          sent(2, 5, 10, 9, 7, 0),
		"0=0[-]":                   {{}},
		"-1=-2[-] 10=1000[-]":      sent(-1, -2, -4, 10, 1000, 1024),
		"1=999[1+2+3+4+5+6+7+8+9]": sent(1, 999, 1022),
	} {
		if got := impl.SentText(l); got != want {
			t.Errorf("SentText(%+v) = %q", l, got)
		}
	}
	for x := -3; x <= 1030; x++ {
		l := sent(1, x, x, 9, 0, 2*x)
		if got := impl.SentText(l); got != words39(l, " ", func(s impl.Sent) string {
			return strconv.Itoa(s.To) + "=" + strconv.Itoa(s.Value) + "[" + label39(s.Label) + "]"
		}) {
			t.Errorf("SentText(%+v) = %q", l, got)
		}
	}
}

func TestGrantText(t *testing.T) {
	for want, g := range map[string]impl.Grant{
		"1:n2/* 5-9!":        {Ext: 1, Pattern: impl.Pattern{Owner: 2, Sub: -1}, Kind: 3, From: 5, Until: 9, Click: true},
		"1:s*/* 0-0":         {Ext: 1, Pattern: everywhere, Kind: 4},
		"5:r*/9 0-10000":     {Ext: 5, Pattern: impl.Pattern{Sub: 9}, Kind: 1, Until: 10000},
		"3:w9/0 10000-10000": {Ext: 3, Pattern: impl.Pattern{Owner: 9}, Kind: 2, From: 10000, Until: 10000},
	} {
		if got := impl.GrantText(g); got != want {
			t.Errorf("GrantText(%+v) = %q", g, got)
		}
	}
	for _, p := range allPatterns() {
		for n := range 40 {
			g := impl.Grant{Ext: 1 + n%5, Pattern: p, Kind: 1 + n%4, From: n, Until: 7 * n, Click: n%3 == 0}
			want := strconv.Itoa(g.Ext) + ":" + []string{"r", "w", "n", "s"}[g.Kind-1] + star39(p.Owner, 0) + "/" + star39(p.Sub, -1) + " " + strconv.Itoa(g.From) + "-" + strconv.Itoa(g.Until)
			if g.Click {
				want += "!"
			}
			if got := impl.GrantText(g); got != want {
				t.Errorf("GrantText(%+v) = %q, want %q", g, got, want)
			}
		}
	}
	for i, g := range badGrants() {
		for _, clicked := range []bool{false, true} {
			g.Click = clicked
			if got := impl.GrantText(g); got != "" {
				t.Errorf("%d: GrantText(%+v) = %q", i, g, got)
			}
		}
	}
}

// TestViewsShowWhatThereIs shows many browsers.
func TestViewsShowWhatThereIs(t *testing.T) {
	for want, b := range map[string]impl.Browser{
		"0 - 0 0 0 0":          {},
		"5 1,2 5 2 4 3":        browser32(),
		"10000 1,2,3,4,5 16 8": full32(),
		"-7 3,-1,0,3 0 0 0 0":  {Now: -7, Packs: []impl.Package{{Ext: 3}, {Ext: -1}, {}, {Ext: 3}}},
		"0 - 1 2 3 4":          {Grants: make([]impl.Grant, 1), Limits: make([]impl.Limit, 2), Rules: make([]impl.Rule, 3), Store: make([]impl.Stored, 4)},
	} {
		if b.Now == 10000 {
			want += " 20 24"
		}
		if got := impl.FormatBrowser(b); got != want {
			t.Errorf("FormatBrowser = %q, want %q", got, want)
		}
	}
	roll := dice(39)
	for range 500 {
		b := someBrowser(roll)
		exts := []string{}
		for _, p := range b.Packs {
			exts = append(exts, strconv.Itoa(p.Ext))
		}
		installed := strings.Join(exts, ",")
		if installed == "" {
			installed = "-"
		}
		want := strconv.Itoa(b.Now) + " " + installed
		for _, n := range []int{len(b.Grants), len(b.Limits), len(b.Rules), len(b.Store)} {
			want += " " + strconv.Itoa(n)
		}
		if got := impl.FormatBrowser(b); got != want {
			t.Errorf("FormatBrowser(%+v) = %q, want %q", b, got, want)
		}
	}
}

func TestViewsKeepTheirArguments(t *testing.T) {
	keeps(t, "FormatList", impl.FormatList, []int{1, 2, 3})
	keeps(t, "OutcomeText", impl.OutcomeText, impl.Outcome{Code: 1, Path: allSites()[:4]})
	keeps(t, "SentText", impl.SentText, sent(1, 2, 2, 3, 4, 4))
	for _, b := range []impl.Browser{browser32(), full32(), {}} {
		keeps(t, "FormatBrowser", impl.FormatBrowser, b)
	}
}
