package tests

import (
	"math"
	"slices"
	"testing"

	"loop.example/g03001/impl"
)

// browser32 has the packages fine27 and pack26, two tabs, and something in each of its lists.
func browser32() impl.Browser {
	fine, other := fine27(), impl.SealPackage(5, pack26())
	second := impl.Tab{Site: impl.Site{Owner: 2, Sub: 3}, Base: []impl.Node{{Parent: -1, By: 5}}, Click: -1}
	return impl.Browser{
		Key:    5,
		Tabs:   []impl.Tab{tab31(), second},
		Packs:  []impl.Package{fine, other},
		Grants: slices.Concat(fine.Grants, other.Grants),
		Limits: []impl.Limit{{Ext: 3, Pattern: everywhere, Kind: impl.KdStore}, {Pattern: impl.Pattern{Owner: 9, Sub: 1}}},
		Rules:  slices.Concat(fine.Rules, other.Rules),
		Store:  entries(1, 0, 5, 1, 1, 4, 6, 2, 2, 0, 7, 3),
		Now:    5,
	}
}

func withBrowser(change func(b *impl.Browser)) impl.Browser {
	b := browser32()
	change(&b)
	return b
}

// full32 has as much of everything as there may be.
func full32() impl.Browser {
	b := impl.Browser{Key: 2147483646, Now: 10000, Store: longStore(24)}
	for i := range b.Store {
		b.Store[i].Ext = 1 + i/5
	}
	for n := range 3 {
		b.Tabs = append(b.Tabs, impl.Tab{Site: impl.Site{Owner: 9, Sub: n}, Base: fullDocument(), Edits: slices.Repeat([]impl.Edit{{Kind: impl.EdText, Node: 2, By: 1 + n}}, 40), Hidden: []int{0, 9}, Click: 10000})
	}
	for ext := 1; ext <= 5; ext++ {
		p := impl.SealPackage(b.Key, impl.Package{Ext: ext, Author: 9, Version: 999})
		b.Packs = append(b.Packs, p)
		b.Rules = append(b.Rules, own17(ext, 4)...)
	}
	b.Grants = slices.Repeat([]impl.Grant{grantFor(5, impl.KdStore, 9, 9)}, 16)
	b.Limits = slices.Repeat([]impl.Limit{{Ext: 5, Pattern: everywhere, Kind: impl.KdStore}}, 8)
	return b
}

// notBrowsers has what is no browser, each for one reason.
func notBrowsers() map[string]impl.Browser {
	out := map[string]impl.Browser{
		"zero":             {},
		"no tabs":          withBrowser(func(b *impl.Browser) { b.Tabs = nil }),
		"4 tabs":           withBrowser(func(b *impl.Browser) { b.Tabs = append(b.Tabs, b.Tabs...) }),
		"another key":      withBrowser(func(b *impl.Browser) { b.Key = 77 }),
		"pack twice":       withBrowser(func(b *impl.Browser) { b.Packs = append(b.Packs, b.Packs[1]) }),
		"packs fall":       withBrowser(func(b *impl.Browser) { slices.Reverse(b.Packs) }),
		"not sealed first": withBrowser(func(b *impl.Browser) { b.Packs[0].Version++ }),
		"not sealed last":  withBrowser(func(b *impl.Browser) { b.Packs[1].Seal = 0 }),
		"17 grants":        withBrowser(func(b *impl.Browser) { b.Grants = slices.Repeat(b.Grants[:1], 17) }),
		"9 limits":         withBrowser(func(b *impl.Browser) { b.Limits = slices.Repeat(b.Limits[:1], 9) }),
		"7 rules of one":   withBrowser(func(b *impl.Browser) { b.Rules = slices.Repeat(b.Rules[:1], 7) }),
		"Now -1":           withBrowser(func(b *impl.Browser) { b.Now = -1 }),
		"Now 10001":        withBrowser(func(b *impl.Browser) { b.Now = 10001 }),
		"no packs":         withBrowser(func(b *impl.Browser) { b.Packs = nil }),
		"grant of 3":       withBrowser(func(b *impl.Browser) { b.Grants = append(b.Grants, grantFor(3, 1, 1, 1)) }),
		"grant of 3 first": withBrowser(func(b *impl.Browser) { b.Grants = slices.Insert(b.Grants, 0, grantFor(3, 1, 1, 1)) }),
		"lent to 3":        withBrowser(func(b *impl.Browser) { b.Grants = append(b.Grants, lent12(3, impl.Site{Owner: 1}, 5)...) }),
		"rule of 3":        withBrowser(func(b *impl.Browser) { b.Rules = append(b.Rules, own17(3, 1)...) }),
		"entry of 3":       withBrowser(func(b *impl.Browser) { b.Store = append(b.Store, entry(3, 0, 0, 1)) }),
		"edit by 3":        withBrowser(func(b *impl.Browser) { b.Tabs[0].Edits[0].By = 3 }),
		"edit by 5 in the last": withBrowser(func(b *impl.Browser) {
			b.Tabs[1].Edits = append(edits31(1), impl.Edit{Kind: impl.EdText, Node: 9, By: 5})
		}),
		"pack 1 gone":              withBrowser(func(b *impl.Browser) { b.Packs = b.Packs[1:] }),
		"only grants of 2":         {Key: 5, Tabs: browser32().Tabs[1:], Grants: browser32().Grants[3:]},
		"only rules of 2":          {Key: 5, Tabs: browser32().Tabs[1:], Rules: browser32().Rules[2:]},
		"only entries of 2":        {Key: 5, Tabs: browser32().Tabs[1:], Store: browser32().Store[2:]},
		"only edits":               {Key: 5, Tabs: browser32().Tabs[:1]},
		"grant of 0":               withBrowser(func(b *impl.Browser) { b.Grants[0].Ext = 0 }),
		"rule of 0":                withBrowser(func(b *impl.Browser) { b.Rules[0].Ext = 0 }),
		"full with 21 rules":       full32(),
		"full with 17 grants":      full32(),
		"full with 25 entries":     full32(),
		"full with 9 limits":       full32(),
		"full with 4 tabs":         full32(),
		"full with 6 packs":        full32(),
		"full with 41 edits in it": full32(),
	}
	more := func(why string, change func(b *impl.Browser)) {
		b := out[why]
		change(&b)
		out[why] = b
	}
	more("full with 21 rules", func(b *impl.Browser) { b.Rules = append(b.Rules, own17(1, 5)[4]) })
	more("full with 17 grants", func(b *impl.Browser) { b.Grants = append(b.Grants, b.Grants[0]) })
	more("full with 25 entries", func(b *impl.Browser) { b.Store = append(b.Store, entry(5, 9, 0, 1)); b.Store[23].Name = 8 })
	more("full with 9 limits", func(b *impl.Browser) { b.Limits = append(b.Limits, b.Limits[0]) })
	more("full with 4 tabs", func(b *impl.Browser) { b.Tabs = append(b.Tabs, b.Tabs[0]) })
	more("full with 6 packs", func(b *impl.Browser) { b.Packs = append(b.Packs, impl.SealPackage(b.Key, impl.Package{Ext: 6})) })
	more("full with 41 edits in it", func(b *impl.Browser) { b.Tabs[2].Edits = append(b.Tabs[2].Edits, b.Tabs[2].Edits[0]) })
	for _, key := range notKeys {
		out["not the key "+impl.FormatInt(key)] = impl.Browser{Key: key, Tabs: browser32().Tabs[1:]}
	}
	for why, x := range notTabs() {
		out["first tab: "+why] = withBrowser(func(b *impl.Browser) { b.Tabs[0] = x })
		out["last tab: "+why] = withBrowser(func(b *impl.Browser) { b.Tabs[1] = x })
	}
	for why, p := range notPackages() {
		out["last pack: "+why] = withBrowser(func(b *impl.Browser) { b.Packs[1] = impl.SealPackage(5, p) })
	}
	for i, g := range badGrants() {
		out["grant "+string(rune('a'+i))] = withBrowser(func(b *impl.Browser) { b.Grants[4] = g })
	}
	for i, x := range badLimits() {
		out["limit "+string(rune('a'+i))] = withBrowser(func(b *impl.Browser) { b.Limits[1] = x })
	}
	for i, r := range badRules() {
		out["last rule "+string(rune('a'+i))] = withBrowser(func(b *impl.Browser) { b.Rules[3] = r })
	}
	for why, l := range notStores() {
		out["store: "+why] = withBrowser(func(b *impl.Browser) { b.Store = l })
	}
	return out
}

// isBrowser32 says by other means whether a browser is valid.
func isBrowser32(b impl.Browser) bool {
	ok := 1 <= b.Key && b.Key <= 2147483646 && 1 <= len(b.Tabs) && len(b.Tabs) <= 3 && len(b.Packs) <= 5 && len(b.Grants) <= 16 && len(b.Limits) <= 8 &&
		fair17(b.Rules) && impl.IsStore(b.Store) && 0 <= b.Now && b.Now <= 10000
	there := map[int]bool{}
	last := 0
	for _, p := range b.Packs {
		ok = ok && impl.IsPackage(p) && p.Seal == impl.KeyedHash(b.Key, ints26(p)) && p.Ext > last
		last, there[p.Ext] = p.Ext, true
	}
	for _, g := range b.Grants {
		ok = ok && impl.IsGrant(g) && there[g.Ext]
	}
	for _, x := range b.Limits {
		ok = ok && impl.IsLimit(x)
	}
	for _, r := range b.Rules {
		ok = ok && there[r.Ext]
	}
	for _, x := range b.Store {
		ok = ok && there[x.Ext]
	}
	for _, tab := range b.Tabs {
		ok = ok && impl.IsTab(tab)
		for _, e := range tab.Edits {
			ok = ok && (e.By == 0 || there[e.By])
		}
	}
	return ok
}

func TestIsBrowser(t *testing.T) {
	if impl.MaxTabs != 3 {
		t.Error(impl.MaxTabs)
	}
	for i, b := range []impl.Browser{
		browser32(), full32(),
		{Key: 1, Tabs: browser32().Tabs[1:]},
		// A limit may be for what is not installed, and a package need not have its grants and rules there, nor pass the review.
		withBrowser(func(b *impl.Browser) { b.Grants, b.Rules, b.Store = nil, nil, nil }),
		withBrowser(func(b *impl.Browser) { b.Limits[0].Ext = 5 }),
		withBrowser(func(b *impl.Browser) { b.Packs[0].Flows = nil; b.Packs[0] = impl.SealPackage(5, b.Packs[0]) }),
		withBrowser(func(b *impl.Browser) { b.Grants[0].Until, b.Rules[0].Prio = 10000, 9 }),
		withBrowser(func(b *impl.Browser) { b.Now, b.Tabs[0].Click = 0, 10000 }),
	} {
		if !impl.IsBrowser(b) || !isBrowser32(b) {
			t.Errorf("%d: %+v is no browser", i, b)
		}
	}
	for why, b := range notBrowsers() {
		if impl.IsBrowser(b) || isBrowser32(b) {
			t.Errorf("%s: %+v is a browser", why, b)
		}
	}
	around([][2]int{{1, 2147483646}, {0, 10000}}, func(field int, x int, inside bool) {
		b := impl.Browser{Key: 3, Tabs: browser32().Tabs[1:]}
		*[]*int{&b.Key, &b.Now}[field] = x
		if got := impl.IsBrowser(b); got != inside {
			t.Errorf("IsBrowser(%+v) = %v", b, got)
		}
	})
	for _, b := range []impl.Browser{browser32(), full32()} {
		for _, x := range variants(b) {
			if got := impl.IsBrowser(x.value); got != isBrowser32(x.value) {
				t.Errorf("%s: IsBrowser = %v", x.where, got)
			}
		}
	}
}

// TestBrowsersWithAFullListOfGrants fills each list up to its limit and beyond it.
func TestBrowsersWithAFullListOfGrants(t *testing.T) {
	for n := range 28 {
		for name, c := range map[string]struct {
			limit int
			b     impl.Browser
		}{
			"grants":  {16, withBrowser(func(b *impl.Browser) { b.Grants = slices.Repeat(b.Grants[3:4], n) })},
			"limits":  {8, withBrowser(func(b *impl.Browser) { b.Limits = slices.Repeat(b.Limits[:1], n) })},
			"rules":   {6, withBrowser(func(b *impl.Browser) { b.Rules = slices.Repeat(b.Rules[:1], n) })},
			"entries": {20, withBrowser(func(b *impl.Browser) { b.Store = longStore(n) })},
			"edits":   {40, withBrowser(func(b *impl.Browser) { b.Tabs[1].Edits = edits31(n + 15) })},
		} {
			want := n <= c.limit
			if name == "edits" {
				want = n+15 <= c.limit
			}
			if got := impl.IsBrowser(c.b); got != want {
				t.Errorf("%d %s: %v", n, name, got)
			}
		}
	}
}

// TestInANewBrowserNothingBelongsToAnExtension opens browsers with many kinds of tabs.
func TestInANewBrowserNothingBelongsToAnExtension(t *testing.T) {
	clean := withTab(func(t *impl.Tab) { t.Edits = t.Edits[1:2] })
	for n := range 5 {
		tabs := slices.Repeat([]impl.Tab{clean}, n)
		for _, key := range []int{1, 5, 2147483646} {
			b, ok := impl.NewBrowser(key, tabs)
			if want := 1 <= n && n <= 3; ok != want || ok && !alike(b, impl.Browser{Key: key, Tabs: tabs}) || !ok && !isZero(b) {
				t.Errorf("NewBrowser(%d, %d tabs) = %+v, %v", key, n, b, ok)
			}
			if ok && !impl.IsBrowser(b) {
				t.Errorf("%+v is no browser", b)
			}
			for ext := 1; ext <= 5; ext++ {
				if impl.PackOf(b, ext) != -1 || impl.TracesOf(b, ext) != 0 || impl.StoredBy(b, ext) != 0 || ok && impl.MayAct(b, ext, 0, impl.KdRead) {
					t.Errorf("something belongs to %d in %+v", ext, b)
				}
			}
			if len(impl.Installed(b)) != 0 {
				t.Errorf("installed: %v", impl.Installed(b))
			}
		}
		for _, key := range notKeys {
			if b, ok := impl.NewBrowser(key, tabs); ok || !isZero(b) {
				t.Errorf("NewBrowser(%d) = %+v, %v", key, b, ok)
			}
		}
	}
	// Tabs with edits of extensions are of no new browser.
	for by := range 6 {
		tab := withTab(func(t *impl.Tab) { t.Edits = append(edits31(2), impl.Edit{Kind: impl.EdDrop, Node: 50, By: by}) })
		for _, tabs := range [][]impl.Tab{{tab}, {clean, tab}, {tab, clean, clean}} {
			if b, ok := impl.NewBrowser(5, tabs); ok != (by == 0) || !ok && !isZero(b) {
				t.Errorf("with edits by %d: %+v, %v", by, b, ok)
			}
		}
	}
	for why, x := range notTabs() {
		for _, tabs := range [][]impl.Tab{{x}, {clean, x}, {x, clean}} {
			if b, ok := impl.NewBrowser(5, tabs); ok || !isZero(b) {
				t.Errorf("%s: %+v, %v", why, b, ok)
			}
		}
	}
}

func TestPackOfAndInstalled(t *testing.T) {
	for i, exts := range [][]int{nil, {1}, {2, 1}, {1, 2, 4, 5}, {3, 3, 1, 3}, {0, -1, 9, math.MaxInt}} {
		var b impl.Browser
		for _, ext := range exts {
			b.Packs = append(b.Packs, impl.Package{Ext: ext})
		}
		for _, ext := range []int{math.MinInt, -1, 0, 1, 2, 3, 4, 5, 6, 9, math.MaxInt} {
			if got := impl.PackOf(b, ext); got != slices.Index(exts, ext) {
				t.Errorf("%d: PackOf(%v, %d) = %d", i, exts, ext, got)
			}
		}
		if got := impl.Installed(b); !slices.Equal(got, exts) {
			t.Errorf("%d: Installed = %v, want %v", i, got, exts)
		}
	}
}

func TestEqualBrowsers(t *testing.T) {
	for _, b := range []impl.Browser{{}, browser32()} {
		checkEqualStructs(t, "EqualBrowsers", impl.EqualBrowsers, b)
	}
}

func TestBrowsersKeepTheirArguments(t *testing.T) {
	clean := withTab(func(t *impl.Tab) { t.Edits = t.Edits[1:2] })
	for _, tabs := range [][]impl.Tab{nil, {clean}, {clean, clean, clean}, {tab31()}} {
		keeps(t, "NewBrowser", impl.NewBrowser, 5, tabs)
	}
	for _, b := range []impl.Browser{browser32(), full32(), {}} {
		keeps(t, "IsBrowser", impl.IsBrowser, b)
		keeps(t, "PackOf", impl.PackOf, b, 2)
		keeps(t, "Installed", impl.Installed, b)
		keeps(t, "EqualBrowsers", impl.EqualBrowsers, b, browser32())
	}
}
