package tests

import (
	"math"
	"slices"
	"testing"

	"loop.example/g03001/impl"
)

// act33 has a tab of 1/0 and one of 2/3, the tick 5, a click in the first tab at 4, and the extension 1 with these grants.
func act33(grants ...impl.Grant) impl.Browser {
	return impl.Browser{
		Key: 5,
		Tabs: []impl.Tab{
			withTab(func(t *impl.Tab) { t.Edits = nil }),
			{Site: impl.Site{Owner: 2, Sub: 3}, Base: tab31().Base, Click: -1},
		},
		Packs:  []impl.Package{fine27()},
		Grants: grants,
		Now:    5,
	}
}

// all33 has a grant of each kind for all sites.
func all33() []impl.Grant {
	return []impl.Grant{grantFor(1, 1, 0, -1), grantFor(1, 2, 0, -1), grantFor(1, 3, 0, -1), grantFor(1, 4, 0, -1)}
}

func withAct(change func(b *impl.Browser)) impl.Browser {
	b := act33(all33()...)
	change(&b)
	return b
}

// may33 says by other means whether an extension may do something at a site.
func may33(b impl.Browser, ext int, s impl.Site, kind int, clicked bool) bool {
	granted := slices.ContainsFunc(b.Grants, func(g impl.Grant) bool {
		return impl.IsGrant(g) && g.Ext == ext && g.Kind == kind && matches(g.Pattern, s) && g.From <= b.Now && b.Now <= g.Until && (clicked || !g.Click)
	})
	denied := slices.ContainsFunc(b.Limits, func(x impl.Limit) bool {
		return impl.IsLimit(x) && (x.Ext == 0 || x.Ext == ext) && (x.Kind == 0 || x.Kind == kind) && matches(x.Pattern, s)
	})
	return granted && !denied
}

// act says by other means whether an extension may act on a tab.
func act(b impl.Browser, ext int, tab int, kind int) bool {
	installed := slices.ContainsFunc(b.Packs, func(p impl.Package) bool { return p.Ext == ext })
	if !installed || tab < 0 || tab >= len(b.Tabs) {
		return false
	}
	click := b.Tabs[tab].Click
	return may33(b, ext, b.Tabs[tab].Site, kind, 0 <= click && click <= 10000 && (b.Now == click || b.Now == click+1 || b.Now == click+2))
}

// someBrowser returns a browser with up to three tabs and extensions, which need not be valid in its grants and limits.
func someBrowser(roll func(n int) int) impl.Browser {
	b := impl.Browser{Key: 5, Now: roll(12), Limits: someLimits(roll, 2), Store: someStore(roll, 24)}
	for range 1 + roll(3) {
		b.Tabs = append(b.Tabs, withTab(func(t *impl.Tab) {
			t.Site = impl.Site{Owner: 1 + roll(3), Sub: roll(3)}
			t.Click = roll(12) - 1
			t.Hidden = [][]int{nil, {3}, {1}, {0, 3}}[roll(4)]
			t.Edits = t.Edits[:roll(4)]
		}))
	}
	for ext := 1; ext <= 3; ext++ {
		if roll(4) > 0 {
			p := finePack(roll, ext, 1)
			b.Packs, b.Grants, b.Rules = append(b.Packs, p), append(b.Grants, p.Grants...), append(b.Rules, p.Rules...)
		}
	}
	if roll(3) == 0 {
		b.Grants = append(b.Grants, someGrants(roll, 3)...)
	}
	for ext := 1; ext <= 3; ext++ {
		if roll(3) == 0 && len(b.Grants) <= 14 {
			b.Grants = append(b.Grants, lent12(ext, b.Tabs[0].Site, b.Now)...)
		}
	}
	return b
}

// TestNothingIsDoneWithoutAGrantInForce lets extensions act at random.
func TestNothingIsDoneWithoutAGrantInForce(t *testing.T) {
	roll := dice(33)
	done := [4]int{}
	for range 8000 {
		b := someBrowser(roll)
		ext, tab, kind := 1+roll(4), roll(5)-1, 1+roll(4)
		if got := impl.MayAct(b, ext, tab, kind); got != act(b, ext, tab, kind) {
			t.Fatalf("MayAct(%+v, %d, %d, %d) = %v", b, ext, tab, kind, got)
		}
		seen := []impl.Node{}
		document := []impl.Node{}
		if tab >= 0 && tab < len(b.Tabs) {
			document = impl.RunEdits(b.Tabs[tab].Base, b.Tabs[tab].Edits)
		}
		if act(b, ext, tab, impl.KdRead) {
			seen = impl.SeenBy(document, b.Tabs[tab].Hidden, ext)
			done[0]++
		}
		if got := impl.ReadTab(b, ext, tab); !slices.Equal(got, seen) {
			t.Fatalf("ReadTab(%+v, %d, %d) = %+v, want %+v", b, ext, tab, got, seen)
		}
		e := impl.Edit{Kind: 1 + roll(4), Node: roll(9), Parent: roll(4), Tag: roll(4), Text: roll(1000), By: roll(7)}
		mine, page := e, e
		mine.By, page.By = ext, 0
		want, wantOk := b, false
		if act(b, ext, tab, impl.KdWrite) && impl.MayEdit(document, b.Tabs[tab].Hidden, mine) {
			if _, applies := impl.ApplyEdit(document, mine); applies {
				want, wantOk = cloned(b), true
				want.Tabs[tab].Edits = append(want.Tabs[tab].Edits, mine)
				done[1]++
			}
		}
		if got, ok := impl.WriteTab(b, ext, tab, e); ok != wantOk || !alike(got, want) {
			t.Fatalf("WriteTab(%+v, %d, %d, %+v) = %+v, %v", b, ext, tab, e, got, ok)
		}
		want, wantOk = b, false
		if _, applies := impl.ApplyEdit(document, page); applies {
			want, wantOk = cloned(b), true
			want.Tabs[tab].Edits = append(want.Tabs[tab].Edits, page)
			done[2]++
		}
		if got, ok := impl.PageEdit(b, tab, e); ok != wantOk || !alike(got, want) {
			t.Fatalf("PageEdit(%+v, %d, %+v) = %+v, %v", b, tab, e, got, ok)
		}
		name, value := roll(12)-1, roll(1001)
		want, wantOk = b, false
		if after, put := impl.PutStored(b.Store, ext, name, value); put && act(b, ext, tab, impl.KdStore) {
			want, wantOk = cloned(b), true
			want.Store = after
			done[3]++
		}
		if got, ok := impl.StoreFor(b, ext, tab, name, value); ok != wantOk || !alike(got, want) {
			t.Fatalf("StoreFor(%+v, %d, %d, %d, %d) = %+v, %v", b, ext, tab, name, value, got, ok)
		}
	}
	if slices.Min(done[:]) < 50 {
		t.Errorf("done: %v", done)
	}
}

func TestMayAct(t *testing.T) {
	for kind := -1; kind <= 6; kind++ {
		for ext := -1; ext <= 6; ext++ {
			for _, tab := range []int{math.MinInt, -1, 0, 1, 2, 3, math.MaxInt} {
				want := ext == 1 && (tab == 0 || tab == 1) && 1 <= kind && kind <= 4
				if got := impl.MayAct(act33(all33()...), ext, tab, kind); got != want {
					t.Errorf("MayAct(%d, %d, %d) = %v", ext, tab, kind, got)
				}
				if impl.MayAct(act33(), ext, tab, kind) || impl.MayAct(impl.Browser{}, ext, tab, kind) {
					t.Errorf("without a grant %d, %d, %d", ext, tab, kind)
				}
			}
		}
	}
	// A grant does not do without a package, nor one of another extension.
	if impl.MayAct(withAct(func(b *impl.Browser) { b.Packs = nil }), 1, 0, 1) {
		t.Error("without a package")
	}
	if impl.MayAct(withAct(func(b *impl.Browser) { b.Packs = append(b.Packs, impl.Package{Ext: 2}) }), 2, 0, 1) {
		t.Error("with the grants of another extension")
	}
	g := grantFor(1, impl.KdWrite, 1, 0)
	for now := -1; now <= 45; now++ {
		for click := -1; click <= 45; click++ {
			for _, clicked := range []bool{false, true} {
				g.From, g.Until, g.Click = 3, 40, clicked
				b := act33(g)
				b.Now, b.Tabs[0].Click = now, click
				want := 3 <= now && now <= 40 && (!clicked || click >= 0 && click <= now && now <= click+2)
				if got := impl.MayAct(b, 1, 0, impl.KdWrite); got != want {
					t.Fatalf("at %d with a click at %d: %v", now, click, got)
				}
				if impl.MayAct(b, 1, 1, impl.KdWrite) {
					t.Fatalf("in the other tab at %d", now)
				}
			}
		}
	}
}

// TestActsAtSitesWithALimit takes kinds away at sites, for one extension or all.
func TestActsAtSitesWithALimit(t *testing.T) {
	text := impl.Edit{Kind: impl.EdText, Node: 2, Text: 9}
	for _, p := range allPatterns() {
		for kind := range 5 {
			for ext := range 3 {
				b := withAct(func(b *impl.Browser) { b.Limits = []impl.Limit{{Ext: ext, Pattern: p, Kind: kind}} })
				for tab, x := range b.Tabs {
					denies := func(k int) bool { return matches(p, x.Site) && ext < 2 && (kind == 0 || kind == k) }
					for k := 1; k <= 4; k++ {
						if got := impl.MayAct(b, 1, tab, k); got == denies(k) {
							t.Fatalf("the kind %d in the tab %d with %+v: %v", k, tab, b.Limits, got)
						}
					}
					_, wrote := impl.WriteTab(b, 1, tab, text)
					_, stored := impl.StoreFor(b, 1, tab, 1, 1)
					_, edited := impl.PageEdit(b, tab, text)
					read := len(impl.ReadTab(b, 1, tab)) > 0
					if read == denies(impl.KdRead) || wrote == denies(impl.KdWrite) || stored == denies(impl.KdStore) || !edited {
						t.Fatalf("in the tab %d with %+v: %v, %v, %v, %v", tab, b.Limits, read, wrote, stored, edited)
					}
				}
			}
		}
	}
	// A limit that is not valid takes nothing away.
	for i, x := range badLimits() {
		b := withAct(func(b *impl.Browser) { b.Limits = []impl.Limit{x} })
		if !impl.MayAct(b, 1, 0, impl.KdRead) || !impl.MayAct(b, 1, 1, impl.KdStore) {
			t.Errorf("%d: %+v", i, x)
		}
	}
	for i, g := range badGrants() {
		b := act33(g)
		for kind := 1; kind <= 4; kind++ {
			if impl.MayAct(b, g.Ext, 0, kind) || impl.MayAct(b, 1, 0, kind) {
				t.Errorf("%d: %+v", i, g)
			}
		}
	}
}

func TestReadTab(t *testing.T) {
	b := act33(all33()...)
	for tab, want := range map[int]string{0: "0<-1:0.0@0 2<0:1.5@0 7<2:0.0@0", 1: "0<-1:0.0@0 2<0:1.5@0 3<2:3.7@0 7<2:0.0@0", 2: "-", -1: "-"} {
		if got := impl.DocumentText(impl.ReadTab(b, 1, tab)); got != want {
			t.Errorf("the tab %d: %s", tab, got)
		}
	}
	// An extension sees what is hidden if it is its own.
	b.Tabs[0].Edits = []impl.Edit{{Kind: impl.EdText, Node: 3, Text: 1, By: 1}}
	if got := impl.DocumentText(impl.ReadTab(b, 1, 0)); got != "0<-1:0.0@0 2<0:1.5@0 3<2:3.1@1 7<2:0.0@0" {
		t.Error(got)
	}
	b.Tabs[0].Base = nil
	if got := impl.ReadTab(b, 1, 0); len(got) != 0 {
		t.Errorf("of no document: %+v", got)
	}
}

func TestWriteTab(t *testing.T) {
	b := act33(all33()...)
	for i, c := range []struct {
		tab  int
		e    impl.Edit
		want string
	}{
		{0, impl.Edit{Kind: impl.EdText, Node: 2, Text: 9, By: 4}, "0<-1:0.0@0 2<0:1.9@1 3<2:3.7@0 7<2:0.0@0"},
		{0, impl.Edit{Kind: impl.EdText, Node: 2, Text: 9, By: 77}, "0<-1:0.0@0 2<0:1.9@1 3<2:3.7@0 7<2:0.0@0"},
		{0, impl.Edit{Kind: impl.EdAdd, Node: 5, Parent: 2, Tag: 3}, "0<-1:0.0@0 2<0:1.5@0 3<2:3.7@0 5<2:3.0@1 7<2:0.0@0"},
		{0, impl.Edit{Kind: impl.EdDrop, Node: 7}, "0<-1:0.0@0 2<0:1.5@0 3<2:3.7@0"},
		{0, impl.Edit{Kind: impl.EdMove, Node: 7}, "0<-1:0.0@0 2<0:1.5@0 3<2:3.7@0 7<0:0.0@1"},
		{1, impl.Edit{Kind: impl.EdText, Node: 3, Text: 9}, "0<-1:0.0@0 2<0:1.5@0 3<2:3.9@1 7<2:0.0@0"},
		{1, impl.Edit{Kind: impl.EdDrop, Node: 2}, "0<-1:0.0@0"},
		// What is hidden, or not there, or no edit.
		{0, impl.Edit{Kind: impl.EdText, Node: 3, Text: 9}, ""},
		{0, impl.Edit{Kind: impl.EdDrop, Node: 2}, ""},
		{0, impl.Edit{Kind: impl.EdAdd, Node: 5, Parent: 3}, ""},
		{0, impl.Edit{Kind: impl.EdMove, Node: 7, Parent: 3}, ""},
		{0, impl.Edit{Kind: impl.EdText, Node: 4, Text: 9}, ""},
		{0, impl.Edit{Kind: impl.EdAdd, Node: 7, Parent: 2}, ""},
		{0, impl.Edit{Kind: impl.EdText, Node: 2, Text: 1000}, ""},
		{0, impl.Edit{Kind: impl.EdText, Node: 0, Text: 9}, ""},
		{0, impl.Edit{Kind: 5, Node: 2}, ""},
		{0, impl.Edit{}, ""},
		{2, impl.Edit{Kind: impl.EdText, Node: 2, Text: 9}, ""},
		{-1, impl.Edit{Kind: impl.EdText, Node: 2, Text: 9}, ""},
	} {
		got, ok := impl.WriteTab(b, 1, c.tab, c.e)
		if ok != (c.want != "") || !ok && !alike(got, b) {
			t.Errorf("%d: WriteTab(%d, %+v) = %+v, %v", i, c.tab, c.e, got, ok)
		}
		if ok && impl.DocumentText(impl.TabDocument(got.Tabs[c.tab])) != c.want {
			t.Errorf("%d: %s", i, impl.DocumentText(impl.TabDocument(got.Tabs[c.tab])))
		}
		if _, other := impl.WriteTab(b, 2, c.tab, c.e); other {
			t.Errorf("%d: the extension 2 writes", i)
		}
	}
}

func TestPageEdit(t *testing.T) {
	// The page needs no grant, and nothing is hidden from it.
	b := act33()
	b.Limits = []impl.Limit{{Pattern: everywhere}}
	got, ok := impl.PageEdit(b, 0, impl.Edit{Kind: impl.EdText, Node: 3, Text: 8, By: 1})
	if !ok || !alike(got.Tabs[0].Edits, []impl.Edit{{Kind: impl.EdText, Node: 3, Text: 8}}) || !alike(got.Tabs[1], b.Tabs[1]) {
		t.Errorf("%+v, %v", got, ok)
	}
	if got, ok := impl.PageEdit(b, 1, impl.Edit{Kind: impl.EdDrop, Node: 2, By: 77}); !ok || len(impl.TabDocument(got.Tabs[1])) != 1 {
		t.Errorf("%+v, %v", got, ok)
	}
	for i, e := range []impl.Edit{{}, {Kind: impl.EdText, Node: 4}, {Kind: impl.EdText, Node: 3, Text: -1}, {Kind: impl.EdAdd, Node: 3}, {Kind: impl.EdMove, Node: 3, Parent: 3}} {
		if got, ok := impl.PageEdit(b, 0, e); ok || !alike(got, b) {
			t.Errorf("%d: PageEdit(%+v) = %+v, %v", i, e, got, ok)
		}
	}
	for _, tab := range []int{math.MinInt, -1, 2, math.MaxInt} {
		if got, ok := impl.PageEdit(b, tab, impl.Edit{Kind: impl.EdText, Node: 3}); ok || !alike(got, b) {
			t.Errorf("the tab %d: %+v, %v", tab, got, ok)
		}
	}
	if got, ok := impl.PageEdit(impl.Browser{Tabs: []impl.Tab{{}}}, 0, impl.Edit{Kind: impl.EdText, Node: 3}); ok {
		t.Errorf("no document: %+v", got)
	}
}

// TestEditsUpToTheLimit fills the list of edits.
func TestEditsUpToTheLimit(t *testing.T) {
	text := impl.Edit{Kind: impl.EdText, Node: 2, Text: 9}
	for n := 37; n <= 43; n++ {
		b := withAct(func(b *impl.Browser) { b.Tabs[0].Edits = edits31(n) })
		if got, ok := impl.WriteTab(b, 1, 0, text); ok != (n < 40) || ok && len(got.Tabs[0].Edits) != n+1 || !ok && !alike(got, b) {
			t.Errorf("WriteTab with %d edits: %v", n, ok)
		}
		if got, ok := impl.PageEdit(b, 0, text); ok != (n < 40) || ok && len(got.Tabs[0].Edits) != n+1 || !ok && !alike(got, b) {
			t.Errorf("PageEdit with %d edits: %v", n, ok)
		}
		if _, ok := impl.PageEdit(b, 1, text); !ok {
			t.Errorf("in the tab beside one with %d edits", n)
		}
	}
}

func TestStoreFor(t *testing.T) {
	b := withAct(func(b *impl.Browser) { b.Store = entries(1, 0, 5, 999, 1, 2, 6, 1, 2, 0, 7, 1) })
	got, ok := impl.StoreFor(b, 1, 0, 2, 8)
	if !ok || !alike(got, withAct(func(b *impl.Browser) { b.Store = entries(1, 0, 5, 999, 1, 2, 8, 2, 2, 0, 7, 1) })) {
		t.Errorf("%+v, %v", got, ok)
	}
	for i, c := range [][4]int{{1, 0, 0, 5}, {1, 0, 10, 5}, {1, 0, -1, 5}, {1, 0, 1, 1000}, {1, 0, 1, -1}, {2, 0, 1, 5}, {0, 0, 1, 5}, {1, 2, 1, 5}, {1, -1, 1, 5}} {
		if got, ok := impl.StoreFor(b, c[0], c[1], c[2], c[3]); ok || !alike(got, b) {
			t.Errorf("%d: StoreFor(%v) = %+v, %v", i, c, got, ok)
		}
	}
	for why, l := range notStores() {
		b.Store = l
		if got, ok := impl.StoreFor(b, 1, 0, 4, 5); ok || !alike(got, b) {
			t.Errorf("%s: %+v, %v", why, got, ok)
		}
	}
	for n := 23; n <= 25; n++ {
		b.Store = longStore(n)
		if _, ok := impl.StoreFor(b, 1, 0, 0, 5); ok != (n <= 24) {
			t.Errorf("again in %d entries: %v", n, ok)
		}
	}
}

func TestActsKeepTheirArguments(t *testing.T) {
	text := impl.Edit{Kind: impl.EdText, Node: 2, Text: 9}
	for _, b := range []impl.Browser{act33(all33()...), act33(), browser32(), {}, withAct(func(b *impl.Browser) { b.Tabs[0].Base = nil })} {
		for tab := -1; tab <= 2; tab++ {
			keeps(t, "MayAct", impl.MayAct, b, 1, tab, 1)
			keeps(t, "ReadTab", impl.ReadTab, b, 1, tab)
			keeps(t, "WriteTab", impl.WriteTab, b, 1, tab, text)
			keeps(t, "PageEdit", impl.PageEdit, b, tab, text)
			keeps(t, "StoreFor", impl.StoreFor, b, 1, tab, 1, 1)
		}
	}
}
