package tests

import (
	"math"
	"slices"
	"testing"

	"loop.example/g03001/impl"
)

// tab31 is of the site 1/0 with four nodes and has three edits, of the page and of two extensions; a tag is hidden.
func tab31() impl.Tab {
	return impl.Tab{
		Site:   impl.Site{Owner: 1},
		Base:   []impl.Node{{Parent: -1}, {Id: 2, Tag: 1, Text: 5}, {Id: 3, Parent: 2, Tag: 3, Text: 7}, {Id: 7, Parent: 2}},
		Edits:  []impl.Edit{{Kind: impl.EdText, Node: 3, Text: 1, By: 1}, {Kind: impl.EdText, Node: 3, Text: 2}, {Kind: impl.EdDrop, Node: 7, By: 2}},
		Hidden: []int{3, 5},
		Click:  4,
	}
}

func withTab(change func(t *impl.Tab)) impl.Tab {
	x := tab31()
	change(&x)
	return x
}

// edits31 returns n edits of the page that apply.
func edits31(n int) []impl.Edit {
	return slices.Repeat([]impl.Edit{{Kind: impl.EdText, Node: 2, Text: 6}}, n)
}

// notTabs has what is no tab, each for one reason.
func notTabs() map[string]impl.Tab {
	out := map[string]impl.Tab{
		"zero":         {},
		"41 edits":     withTab(func(t *impl.Tab) { t.Edits = edits31(41) }),
		"Hidden -1":    withTab(func(t *impl.Tab) { t.Hidden = []int{-1} }),
		"Hidden 10":    withTab(func(t *impl.Tab) { t.Hidden = []int{10} }),
		"Hidden to 10": withTab(func(t *impl.Tab) { t.Hidden = []int{0, 1, 10} }),
		"Hidden twice": withTab(func(t *impl.Tab) { t.Hidden = []int{3, 3} }),
		"Hidden falls": withTab(func(t *impl.Tab) { t.Hidden = []int{3, 2} }),
		"Hidden last":  withTab(func(t *impl.Tab) { t.Hidden = []int{1, 2, 3, 3} }),
		"Click -2":     withTab(func(t *impl.Tab) { t.Click = -2 }),
		"Click 10001":  withTab(func(t *impl.Tab) { t.Click = 10001 }),
		"Click least":  withTab(func(t *impl.Tab) { t.Click = math.MinInt }),
		"Kind 0":       withTab(func(t *impl.Tab) { t.Edits[2].Kind = 0 }),
		"Kind 5":       withTab(func(t *impl.Tab) { t.Edits[0].Kind = 5 }),
		"Node 0":       withTab(func(t *impl.Tab) { t.Edits[1].Node = 0 }),
		"Node 100":     withTab(func(t *impl.Tab) { t.Edits[1].Node = 100 }),
		"By 6":         withTab(func(t *impl.Tab) { t.Edits[2].By = 6 }),
		"By -1":        withTab(func(t *impl.Tab) { t.Edits[0].By = -1 }),
		"Text 1000":    withTab(func(t *impl.Tab) { t.Edits[0].Text = 1000 }),
	}
	for why, d := range notDocuments() {
		out["Base: "+why] = withTab(func(t *impl.Tab) { t.Base = d })
	}
	for i, s := range notSites {
		out["Site "+string(rune('a'+i))] = withTab(func(t *impl.Tab) { t.Site = s })
	}
	return out
}

func TestIsTab(t *testing.T) {
	if impl.MaxEdits != 40 {
		t.Error(impl.MaxEdits)
	}
	around([][2]int{{1, 9}, {0, 9}, {-1, 10000}}, func(field int, x int, inside bool) {
		tab := tab31()
		*[]*int{&tab.Site.Owner, &tab.Site.Sub, &tab.Click}[field] = x
		if got := impl.IsTab(tab); got != inside {
			t.Errorf("IsTab(%+v) = %v", tab, got)
		}
	})
	for n := range 43 {
		if got := impl.IsTab(withTab(func(t *impl.Tab) { t.Edits = edits31(n) })); got != (n <= 40) {
			t.Errorf("with %d edits: %v", n, got)
		}
	}
	for _, hidden := range [][]int{nil, {}, {0}, {9}, {0, 9}, {0, 1, 2, 3, 4, 5, 6, 7, 8, 9}, {3, 5, 6}} {
		if !impl.IsTab(withTab(func(t *impl.Tab) { t.Hidden = hidden })) {
			t.Errorf("with %v hidden it is no tab", hidden)
		}
	}
	// Edits that are valid need not apply, and the nodes of the base may be of any world.
	if !impl.IsTab(withTab(func(t *impl.Tab) { t.Base, t.Edits = fullDocument(), edits31(40); t.Edits[39].Node = 99 })) {
		t.Error("with a full document it is no tab")
	}
	for why, x := range notTabs() {
		if impl.IsTab(x) {
			t.Errorf("%s: %+v is a tab", why, x)
		}
	}
}

func TestOpenTab(t *testing.T) {
	for _, s := range append(allSites(), notSites...) {
		got, ok := impl.OpenTab(s, tab31().Base, []int{3, 5})
		want := impl.Tab{Site: s, Base: tab31().Base, Hidden: []int{3, 5}, Click: -1}
		if inside := 1 <= s.Owner && s.Owner <= 9 && 0 <= s.Sub && s.Sub <= 9; ok != inside || ok && !alike(got, want) || !ok && !isZero(got) {
			t.Errorf("OpenTab(%+v) = %+v, %v", s, got, ok)
		}
	}
	for why, d := range notDocuments() {
		if got, ok := impl.OpenTab(impl.Site{Owner: 1}, d, nil); ok || !isZero(got) {
			t.Errorf("%s: %+v, %v", why, got, ok)
		}
	}
	for _, hidden := range [][]int{{-1}, {10}, {3, 3}, {5, 3}, {0, 1, 1}} {
		if got, ok := impl.OpenTab(impl.Site{Owner: 1}, tab31().Base, hidden); ok || !isZero(got) {
			t.Errorf("with %v hidden: %+v, %v", hidden, got, ok)
		}
	}
	if got, ok := impl.OpenTab(impl.Site{Owner: 9, Sub: 9}, fullDocument(), nil); !ok || !alike(got, impl.Tab{Site: impl.Site{Owner: 9, Sub: 9}, Base: fullDocument(), Click: -1}) {
		t.Errorf("with a full document: %+v, %v", got, ok)
	}
}

// TestWithoutAWorldATabShowsTheEditsOfTheOthers takes back the edits of each world from many histories.
func TestWithoutAWorldATabShowsTheEditsOfTheOthers(t *testing.T) {
	histories(func(l []impl.Edit) {
		x := withTab(func(t *impl.Tab) { t.Edits = l })
		if got := impl.TabDocument(x); !slices.Equal(got, impl.RunEdits(x.Base, l)) {
			t.Fatalf("TabDocument of %+v: %+v", x, got)
		}
		for by := -1; by <= 6; by++ {
			others := slices.DeleteFunc(slices.Clone(l), func(e impl.Edit) bool { return e.By == by })
			got := impl.TabWithout(x, by)
			if !alike(got, withTab(func(t *impl.Tab) { t.Edits = others })) {
				t.Fatalf("TabWithout(%+v, %d) = %+v", x, by, got)
			}
			shown := impl.TabDocument(got)
			if !slices.Equal(shown, impl.TakeBack(x.Base, l, by)) {
				t.Fatalf("without %d %+v shows %+v", by, x, shown)
			}
			if by > 0 && slices.ContainsFunc(shown, func(n impl.Node) bool { return n.By == by }) {
				t.Fatalf("without %d %+v shows %+v", by, x, shown)
			}
		}
	})
	if got := impl.TabWithout(impl.Tab{}, 1); !isZero(got) {
		t.Errorf("the zero tab becomes %+v", got)
	}
}

func TestTabDocument(t *testing.T) {
	x := tab31()
	if got := impl.DocumentText(impl.TabDocument(x)); got != "0<-1:0.0@0 2<0:1.5@0 3<2:3.2@0" {
		t.Error(got)
	}
	if got := impl.DocumentText(impl.TabDocument(impl.TabWithout(x, 2))); got != "0<-1:0.0@0 2<0:1.5@0 3<2:3.2@0 7<2:0.0@0" {
		t.Error(got)
	}
	if got := impl.DocumentText(impl.TabDocument(impl.TabWithout(x, 0))); got != "0<-1:0.0@0 2<0:1.5@0 3<2:3.1@1" {
		t.Error(got)
	}
	// Of a base that is no document nothing is changed.
	for why, d := range notDocuments() {
		if got := impl.TabDocument(impl.Tab{Base: d, Edits: x.Edits}); !slices.Equal(got, d) {
			t.Errorf("%s: %+v", why, got)
		}
	}
}

// TestTabsWithoutClicks asks for ticks around the numbers that are clicks or not.
func TestTabsWithoutClicks(t *testing.T) {
	for _, click := range []int{math.MinInt, math.MinInt + 2, -1000, -3, -2, -1, 0, 1, 2, 3, 500, 9998, 9999, 10000, 10001, 10002, math.MaxInt - 2, math.MaxInt} {
		for _, tick := range []int{math.MinInt, -4, -3, -2, -1, 0, 1, 2, 3, 4, 5, 6, 499, 500, 502, 503, 9998, 9999, 10000, 10001, 10002, 10003, math.MaxInt - 1, math.MaxInt} {
			want := click >= 0 && click <= 10000 && (tick == click || tick == click+1 || tick == click+2)
			if got := impl.IsClicked(withTab(func(t *impl.Tab) { t.Click = click }), tick); got != want {
				t.Errorf("a click at %d, %d: %v", click, tick, got)
			}
			if got := impl.IsClicked(impl.Tab{Click: click}, tick); got != want {
				t.Errorf("a click at %d in no tab, %d: %v", click, tick, got)
			}
		}
	}
	opened, _ := impl.OpenTab(impl.Site{Owner: 1}, tab31().Base, nil)
	for tick := -3; tick <= 10003; tick++ {
		if impl.IsClicked(opened, tick) {
			t.Fatalf("a new tab is clicked at %d", tick)
		}
	}
}

func TestEqualTabs(t *testing.T) {
	for _, x := range []impl.Tab{{}, tab31(), withTab(func(t *impl.Tab) { t.Edits, t.Hidden = nil, nil })} {
		checkEqualStructs(t, "EqualTabs", impl.EqualTabs, x)
	}
}

func TestTabsKeepTheirArguments(t *testing.T) {
	for _, x := range []impl.Tab{tab31(), {}, withTab(func(t *impl.Tab) { t.Base = nil }), withTab(func(t *impl.Tab) { t.Edits = nil })} {
		keeps(t, "IsTab", impl.IsTab, x)
		keeps(t, "OpenTab", impl.OpenTab, impl.Site{Owner: 1}, x.Base, x.Hidden)
		keeps(t, "TabDocument", impl.TabDocument, x)
		keeps(t, "IsClicked", impl.IsClicked, x, 4)
		keeps(t, "EqualTabs", impl.EqualTabs, x, tab31())
		for by := range 4 {
			keeps(t, "TabWithout", impl.TabWithout, x, by)
		}
	}
}
