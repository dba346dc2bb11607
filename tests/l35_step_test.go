package tests

import (
	"math"
	"slices"
	"testing"

	"loop.example/g03001/impl"
)

// empty35 has two tabs and nothing installed, at the tick 5.
func empty35() impl.Browser {
	return impl.Browser{Key: 5, Tabs: act33().Tabs, Now: 5}
}

// without35 takes what is of an extension, or the rest, out of a list.
func without35[T any](l []T, ext int, of func(T) int) []T {
	return slices.DeleteFunc(slices.Clone(l), func(x T) bool { return of(x) == ext })
}

func grantExt(g impl.Grant) int  { return g.Ext }
func ruleExt(r impl.Rule) int    { return r.Ext }
func entryExt(x impl.Stored) int { return x.Ext }
func editBy(e impl.Edit) int     { return e.By }

// stepped says by other means what a step makes of a browser; the kinds of events stand for the steps.
func stepped(b impl.Browser, e impl.Event) (impl.Browser, bool) {
	c := cloned(b)
	at := slices.IndexFunc(b.Packs, func(p impl.Package) bool { return p.Ext == e.Ext })
	if e.Kind == impl.EvInstall || e.Kind == impl.EvUpdate {
		at = slices.IndexFunc(b.Packs, func(p impl.Package) bool { return p.Ext == e.Package.Ext })
	}
	hasTab := e.Tab >= 0 && e.Tab < len(b.Tabs)
	ok := false
	switch p := cloned(e.Package); e.Kind {
	case impl.EvInstall:
		// The others stay where they are, so that packages out of their order make no browser.
		lesser := slices.DeleteFunc(cloned(b.Packs), func(q impl.Package) bool { return q.Ext > p.Ext })
		c.Packs = slices.Insert(c.Packs, len(lesser), p)
		c.Grants, c.Rules = append(c.Grants, p.Grants...), append(c.Rules, p.Rules...)
		ok = review27(b.Key, p) == 0 && at < 0 && isBrowser32(c)
	case impl.EvRemove:
		if ok = at >= 0; ok {
			c.Packs = slices.Delete(c.Packs, at, at+1)
			c.Grants, c.Rules, c.Store = without35(c.Grants, e.Ext, grantExt), without35(c.Rules, e.Ext, ruleExt), without35(c.Store, e.Ext, entryExt)
			for i := range c.Tabs {
				c.Tabs[i].Edits = without35(c.Tabs[i].Edits, e.Ext, editBy)
			}
		}
	case impl.EvUpdate:
		if at >= 0 {
			old := b.Packs[at]
			c.Packs[at] = p
			c.Grants, c.Rules = append(without35(c.Grants, p.Ext, grantExt), p.Grants...), append(without35(c.Rules, p.Ext, ruleExt), p.Rules...)
			ok = review27(b.Key, p) == 0 && impl.IsPackage(old) && old.Author == p.Author && old.Version < p.Version && (e.Consent || !wider28(old, p)) && isBrowser32(c)
		}
	case impl.EvLimit:
		c.Limits = append(c.Limits, e.Limit)
		ok = impl.IsLimit(e.Limit) && len(b.Limits) < 8
	case impl.EvClick:
		if ok = hasTab; ok {
			c.Tabs[e.Tab].Click = b.Now
			if lent, there := impl.LendTo(b.Grants, e.Ext, b.Tabs[e.Tab].Site, b.Now); there && at >= 0 {
				c.Grants = lent
			}
		}
	case impl.EvGo:
		if hasTab {
			was := b.Tabs[e.Tab]
			c.Tabs[e.Tab] = impl.Tab{Site: e.Site, Base: []impl.Node{{Parent: -1}}, Hidden: slices.Clone(was.Hidden), Click: -1}
			c.Grants = slices.DeleteFunc(c.Grants, func(g impl.Grant) bool { return impl.IsLent(g) && impl.MatchSite(g.Pattern, was.Site) })
			ok = impl.IsTab(c.Tabs[e.Tab])
		}
	case impl.EvTick:
		c.Now += e.N
		c.Grants = slices.DeleteFunc(c.Grants, func(g impl.Grant) bool { return !impl.IsGrant(g) || g.Until < c.Now })
		ok = 1 <= e.N && e.N <= 100 && b.Now >= 0 && c.Now <= 10000
	}
	if !ok {
		return b, false
	}
	return c, true
}

// takeStep calls the function of the step.
func takeStep(b impl.Browser, e impl.Event) (impl.Browser, bool) {
	switch e.Kind {
	case impl.EvInstall:
		return impl.StepInstall(b, e.Package)
	case impl.EvRemove:
		return impl.StepRemove(b, e.Ext)
	case impl.EvUpdate:
		return impl.StepUpdate(b, e.Package, e.Consent)
	case impl.EvLimit:
		return impl.StepLimit(b, e.Limit)
	case impl.EvClick:
		return impl.StepClick(b, e.Tab, e.Ext)
	case impl.EvGo:
		return impl.StepGo(b, e.Tab, e.Site)
	}
	return impl.StepTick(b, e.N)
}

// someEvent returns an event of a kind, which may be none for this browser.
func someEvent(roll func(n int) int, kind int, b impl.Browser) impl.Event {
	e := impl.Event{Kind: kind, Ext: roll(4), Tab: roll(len(b.Tabs) + 1), N: roll(6), Consent: roll(2) == 0, Site: impl.Site{Owner: 1 + roll(3), Sub: roll(3)}}
	switch kind {
	case impl.EvInstall, impl.EvUpdate:
		e.Package = finePack(roll, 1+roll(4), 1+roll(3))
		e.Package.Author = 1
		if kind == impl.EvUpdate && len(b.Packs) > 0 && roll(4) > 0 {
			e.Package = cloned(b.Packs[roll(len(b.Packs))])
			e.Package.Version++
			for i := range e.Package.Grants {
				e.Package.Grants[i].Until += roll(5) - 3
			}
		}
		if roll(9) > 0 {
			e.Package = impl.SealPackage(b.Key, e.Package)
		}
	case impl.EvLimit:
		e.Limit = impl.Limit{Ext: roll(4), Pattern: impl.Pattern{Owner: roll(4), Sub: roll(3) - 1}, Kind: roll(5)}
		if roll(5) == 0 {
			e.Limit = badLimits()[roll(len(badLimits()))]
		}
	case impl.EvTick:
		if roll(9) == 0 {
			e.N = 95 + roll(9)
		}
	case impl.EvPage, impl.EvWrite:
		e.Edit = impl.Edit{Kind: []int{1, 1, 2, 3, 3, 4}[roll(6)], Node: []int{2, 3, 7, 1 + roll(12)}[roll(4)], Parent: roll(4), Tag: roll(4), Text: roll(1000), By: roll(7)}
	case impl.EvStore:
		e.Value = roll(1000)
	}
	return e
}

func TestStepsKeepBrowsersValid(t *testing.T) {
	roll := dice(35)
	counts := [8][2]int{}
	for range 250 {
		b := empty35()
		for range 40 {
			e := someEvent(roll, 1+roll(7), b)
			want, wantOk := stepped(b, e)
			got, ok := takeStep(b, e)
			if ok != wantOk || !alike(got, want) {
				t.Fatalf("the step %+v of %+v: %+v, %v, want %+v, %v", e, b, got, ok, want, wantOk)
			}
			if !impl.IsBrowser(got) || !isBrowser32(got) {
				t.Fatalf("the step %+v of %+v: %+v is no browser", e, b, got)
			}
			counts[e.Kind][map[bool]int{true: 1}[ok]]++
			b = got
			// What extensions do in between.
			e = someEvent(roll, 8+roll(3), b)
			b, _ = impl.ApplyEvent(b, e)
		}
	}
	for kind, n := range counts[1:] {
		if n[0] < 20 || n[1] < 20 {
			t.Errorf("steps of the kind %d: %v", kind+1, n)
		}
	}
}

// TestStepsOfWhatIsNoBrowser takes all steps of browsers that are not valid: only what a chapter asks for is asked for.
func TestStepsOfWhatIsNoBrowser(t *testing.T) {
	roll := dice(350)
	for why, b := range notBrowsers() {
		for kind := 1; kind <= 7; kind++ {
			for range 3 {
				e := someEvent(roll, kind, b)
				want, wantOk := stepped(b, e)
				if got, ok := takeStep(b, e); ok != wantOk || !alike(got, want) {
					t.Errorf("%s: the step %+v of %+v: %+v, %v", why, e, b, got, ok)
				}
			}
		}
	}
}

func TestStepInstall(t *testing.T) {
	// In any order of installing the packages stand in their order, the grants and rules in that of installing.
	packs := []impl.Package{fine27(), impl.SealPackage(5, impl.Package{Ext: 2, Author: 1, Version: 1, Grants: []impl.Grant{grantFor(2, 3, 0, -1)}}), impl.SealPackage(5, impl.Package{Ext: 5, Author: 1, Version: 1})}
	packs[1].Rules = own17(2, 3)
	packs[1] = impl.SealPackage(5, packs[1])
	for _, order := range [][]int{{0, 1, 2}, {0, 2, 1}, {1, 0, 2}, {1, 2, 0}, {2, 0, 1}, {2, 1, 0}} {
		b := empty35()
		want := empty35()
		want.Packs = packs
		for _, i := range order {
			var ok bool
			b, ok = impl.StepInstall(b, packs[i])
			want.Grants, want.Rules = append(want.Grants, packs[i].Grants...), append(want.Rules, packs[i].Rules...)
			if !ok {
				t.Fatalf("%v: %d is not installed", order, i)
			}
		}
		if !alike(b, want) {
			t.Errorf("%v: %+v", order, b)
		}
		for _, p := range packs {
			if got, ok := impl.StepInstall(b, p); ok || !alike(got, b) {
				t.Errorf("again: %+v", p)
			}
		}
	}
	for why, p := range map[string]impl.Package{
		"zero": {}, "not sealed": plain26(), "another key": impl.SealPackage(77, plain26()), "not reached": withFine(func(p *impl.Package) { p.Grants = p.Grants[:2] }),
		"no flows": withFine(func(p *impl.Package) { p.Flows = nil }), "Version 0": withFine(func(p *impl.Package) { p.Version = 0 }),
	} {
		if got, ok := impl.StepInstall(empty35(), p); ok || !alike(got, empty35()) {
			t.Errorf("%s: %+v, %v", why, got, ok)
		}
	}
	for why, b := range notBrowsers() {
		if got, ok := impl.StepInstall(b, impl.SealPackage(b.Key, impl.Package{Ext: 4, Author: 1, Version: 1})); ok || !alike(got, b) {
			t.Errorf("%s: %+v", why, got)
		}
	}
}

// TestStepInstallUpToTheLimits fills the grants, the rules and the packages.
func TestStepInstallUpToTheLimits(t *testing.T) {
	p := impl.Package{Ext: 2, Author: 1, Version: 1, Grants: slices.Repeat([]impl.Grant{grantFor(2, 3, 0, -1)}, 3), Rules: own17(2, 3)}
	p = impl.SealPackage(5, p)
	for n := range 20 {
		b := empty35()
		b.Packs = []impl.Package{fine27()}
		b.Grants = slices.Repeat([]impl.Grant{grantFor(1, 4, 1, 1)}, n)
		if got, ok := impl.StepInstall(b, p); ok != (n+3 <= 16) || !ok && !alike(got, b) || ok && len(got.Grants) != n+3 {
			t.Errorf("3 grants beside %d: %v", n, ok)
		}
	}
	for own := range 7 {
		b := empty35()
		for ext := range []int{1, 3, 4} {
			b.Packs = append(b.Packs, impl.SealPackage(5, impl.Package{Ext: []int{1, 3, 4}[ext], Author: 1, Version: 1}))
			b.Rules = append(b.Rules, own17([]int{1, 3, 4}[ext], own)...)
		}
		if got, ok := impl.StepInstall(b, p); ok != (3*own+3 <= 20) || !ok && !alike(got, b) {
			t.Errorf("3 rules beside %d: %v", 3*own, ok)
		}
		b.Rules = b.Rules[:min(17, len(b.Rules))]
		if _, ok := impl.StepInstall(b, p); !ok {
			t.Errorf("3 rules beside %d: %v", len(b.Rules), ok)
		}
	}
}

// TestRemovalsOfWhatIsNotInstalled leave everything as it is, also grants and edits of what is not there.
func TestRemovalsOfWhatIsNotInstalled(t *testing.T) {
	for _, b := range []impl.Browser{browser32(), empty35(), {}, withBrowser(func(b *impl.Browser) { b.Packs = nil }), full32()} {
		for _, ext := range []int{math.MinInt, -1, 0, 3, 4, 6, math.MaxInt} {
			if slices.ContainsFunc(b.Packs, func(p impl.Package) bool { return p.Ext == ext }) {
				continue
			}
			if got, ok := impl.StepRemove(b, ext); ok || !alike(got, b) {
				t.Errorf("StepRemove(%+v, %d) = %+v, %v", b, ext, got, ok)
			}
		}
	}
	b, ok := impl.StepRemove(browser32(), 1)
	if again, twice := impl.StepRemove(b, 1); !ok || twice || !alike(again, b) {
		t.Errorf("twice: %+v", again)
	}
}

func TestStepRemove(t *testing.T) {
	b, ok := impl.StepRemove(browser32(), 1)
	want := withBrowser(func(b *impl.Browser) {
		b.Packs, b.Grants, b.Rules, b.Store = b.Packs[1:], b.Grants[3:], b.Rules[2:], b.Store[2:]
		b.Tabs[0].Edits = b.Tabs[0].Edits[1:]
	})
	if !ok || !alike(b, want) {
		t.Errorf("%+v, %v", b, ok)
	}
	for b := full32(); len(b.Packs) > 0; {
		ext := b.Packs[len(b.Packs)/2].Ext
		var ok bool
		b, ok = impl.StepRemove(b, ext)
		if !ok || impl.TracesOf(b, ext) != 0 || !impl.IsBrowser(b) {
			t.Errorf("without %d: %+v, %v", ext, b, ok)
		}
		for _, tab := range b.Tabs {
			if slices.ContainsFunc(impl.TabDocument(tab), func(n impl.Node) bool { return n.By == ext && n.Id == 2 && n.Text == 0 }) {
				t.Errorf("without %d: %+v", ext, tab)
			}
		}
	}
	// A limit is nobody's, and stays.
	if b, ok := impl.StepRemove(withBrowser(func(b *impl.Browser) { b.Limits[0].Ext = 1 }), 1); !ok || len(b.Limits) != 2 {
		t.Errorf("%+v", b.Limits)
	}
}

func TestStepUpdate(t *testing.T) {
	lent := lent12(1, impl.Site{Owner: 1}, 5)
	start := withBrowser(func(b *impl.Browser) { b.Grants = append(b.Grants, lent...) })
	same := next27(func(*impl.Package) {})
	wide := next27(func(p *impl.Package) { p.Grants[0].Until, p.Rules = 41, nil })
	for i, c := range []struct {
		p             impl.Package
		consent, want bool
	}{
		{same, false, true}, {same, true, true}, {wide, false, false}, {wide, true, true}, {fine27(), true, false}, {impl.Package{}, true, false},
		{impl.SealPackage(77, same), true, false}, {next27(func(p *impl.Package) { p.Author = 2 }), true, false},
		{impl.SealPackage(5, impl.Package{Ext: 3, Author: 1, Version: 9}), true, false}, {next27(func(p *impl.Package) { p.Grants, p.Flows, p.Rules, p.Ops = nil, nil, nil, nil }), false, true},
		{next27(func(p *impl.Package) { p.Flows = nil }), true, false},
	} {
		got, ok := impl.StepUpdate(start, c.p, c.consent)
		want := start
		if c.want {
			want = withBrowser(func(b *impl.Browser) {
				b.Packs[0] = c.p
				b.Grants, b.Rules = append(b.Grants[3:], c.p.Grants...), append(b.Rules[2:], c.p.Rules...)
			})
		}
		if ok != c.want || !alike(got, want) {
			t.Errorf("%d: StepUpdate(%+v, %v) = %+v, %v", i, c.p, c.consent, got, ok)
		}
		if got, ok := impl.StepUpdate(empty35(), c.p, true); ok || !alike(got, empty35()) {
			t.Errorf("%d: of nothing: %+v, %v", i, got, ok)
		}
	}
	// More grants than there is room for.
	for n := 10; n <= 16; n++ {
		p := next27(func(p *impl.Package) { p.Grants = append(p.Grants, p.Grants...) })
		b := withBrowser(func(b *impl.Browser) { b.Grants = append(b.Grants[:3], slices.Repeat(b.Grants[3:4], n-3)...) })
		if got, ok := impl.StepUpdate(b, p, true); ok != (n+3 <= 16) || !ok && !alike(got, b) {
			t.Errorf("6 grants for 3 of %d: %v", n, ok)
		}
	}
	for why, b := range notBrowsers() {
		if got, ok := impl.StepUpdate(b, same, true); ok && !isBrowser32(got) || !ok && !alike(got, b) {
			t.Errorf("%s: %v", why, ok)
		}
	}
}

func TestStepLimit(t *testing.T) {
	x := impl.Limit{Ext: 1, Pattern: everywhere, Kind: 2}
	for n := range 12 {
		b := withBrowser(func(b *impl.Browser) { b.Limits = slices.Repeat([]impl.Limit{x}, n) })
		want := b
		if n < 8 {
			want = withBrowser(func(b *impl.Browser) { b.Limits = slices.Repeat([]impl.Limit{x}, n+1) })
		}
		if got, ok := impl.StepLimit(b, x); ok != (n < 8) || !alike(got, want) {
			t.Errorf("beside %d: %+v, %v", n, got.Limits, ok)
		}
	}
	for i, x := range badLimits() {
		if got, ok := impl.StepLimit(browser32(), x); ok || !alike(got, browser32()) {
			t.Errorf("%d: StepLimit(%+v): %+v, %v", i, x, got, ok)
		}
	}
	if got, ok := impl.StepLimit(impl.Browser{}, impl.Limit{}); !ok || !alike(got, impl.Browser{Limits: []impl.Limit{{}}}) {
		t.Errorf("of the zero browser: %+v, %v", got, ok)
	}
}

func TestStepClick(t *testing.T) {
	b := browser32()
	lent := lent12(1, impl.Site{Owner: 1}, 5)
	for i, c := range []struct {
		tab, ext int
		lent     []impl.Grant
		ok       bool
	}{
		{0, 1, lent, true}, {0, 2, lent12(2, impl.Site{Owner: 1}, 5), true}, {1, 1, lent12(1, impl.Site{Owner: 2, Sub: 3}, 5), true},
		{0, 0, nil, true}, {0, 3, nil, true}, {0, 6, nil, true}, {0, -1, nil, true}, {1, math.MaxInt, nil, true},
		{2, 1, nil, false}, {-1, 1, nil, false}, {math.MaxInt, 1, nil, false}, {math.MinInt, 0, nil, false},
	} {
		want := b
		if c.ok {
			want = withBrowser(func(b *impl.Browser) { b.Tabs[c.tab].Click, b.Grants = 5, append(b.Grants, c.lent...) })
		}
		got, ok := impl.StepClick(b, c.tab, c.ext)
		if ok != c.ok || !alike(got, want) {
			t.Errorf("%d: StepClick(%d, %d) = %+v, %v", i, c.tab, c.ext, got, ok)
		}
		// At the same tick there is no more to lend.
		if again, ok := impl.StepClick(got, c.tab, c.ext); ok != c.ok || !alike(again, got) {
			t.Errorf("%d: again %+v, %v", i, again, ok)
		}
	}
	// Where nothing can be lent there is the click alone.
	for n := 13; n <= 16; n++ {
		b := withBrowser(func(b *impl.Browser) { b.Grants = slices.Repeat(b.Grants[3:4], n) })
		want := cloned(b)
		want.Tabs[0].Click = 5
		if n <= 14 {
			want.Grants = append(want.Grants, lent...)
		}
		if got, ok := impl.StepClick(b, 0, 1); !ok || !alike(got, want) {
			t.Errorf("beside %d grants: %+v, %v", n, got.Grants, ok)
		}
	}
	for now := 9990; now <= 10000; now++ {
		got, ok := impl.StepClick(withBrowser(func(b *impl.Browser) { b.Now = now }), 0, 1)
		if !ok || got.Tabs[0].Click != now || (len(got.Grants) == 7) != (now <= 9995) || !impl.IsBrowser(got) {
			t.Errorf("at %d: %+v, %v", now, got, ok)
		}
	}
}

func TestStepGo(t *testing.T) {
	first, second := impl.Site{Owner: 1}, impl.Site{Owner: 2, Sub: 3}
	start := withBrowser(func(b *impl.Browser) {
		b.Grants = slices.Concat(b.Grants, lent12(1, first, 5), lent12(2, second, 4), lent12(2, first, 0))
	})
	for _, s := range append(allSites(), notSites...) {
		got, ok := impl.StepGo(start, 0, s)
		want := start
		inside := 1 <= s.Owner && s.Owner <= 9 && 0 <= s.Sub && s.Sub <= 9
		if inside {
			want = withBrowser(func(b *impl.Browser) {
				b.Tabs[0] = impl.Tab{Site: s, Base: []impl.Node{{Parent: -1}}, Hidden: []int{3, 5}, Click: -1}
				b.Grants = append(b.Grants, lent12(2, second, 4)...)
			})
		}
		if ok != inside || !alike(got, want) {
			t.Errorf("StepGo(%+v) = %+v, %v", s, got, ok)
		}
	}
	if got, ok := impl.StepGo(start, 1, first); !ok || len(got.Grants) != 9 || !alike(got.Tabs[0], start.Tabs[0]) || len(got.Tabs[1].Hidden) != 0 || got.Tabs[1].Site != first {
		t.Errorf("the other tab: %+v, %v", got, ok)
	}
	for _, tab := range []int{math.MinInt, -1, 2, math.MaxInt} {
		if got, ok := impl.StepGo(start, tab, first); ok || !alike(got, start) {
			t.Errorf("the tab %d: %+v, %v", tab, got, ok)
		}
	}
	// A tab with other things hidden than tags would not be valid; everything else of the old tab is gone anyway.
	for why, x := range notTabs() {
		b := withBrowser(func(b *impl.Browser) { b.Tabs[0] = x })
		_, opens := impl.OpenTab(first, []impl.Node{{Parent: -1}}, x.Hidden)
		got, ok := impl.StepGo(b, 0, first)
		if ok != opens || !ok && !alike(got, b) || ok && !impl.IsTab(got.Tabs[0]) {
			t.Errorf("%s: %+v, %v", why, got, ok)
		}
	}
}

func TestStepTick(t *testing.T) {
	for n := -3; n <= 103; n++ {
		got, ok := impl.StepTick(browser32(), n)
		want := browser32()
		if n >= 1 && n <= 100 {
			want.Now = 5 + n
			want.Grants = slices.DeleteFunc(want.Grants, func(g impl.Grant) bool { return g.Until < 5+n })
			if !ok || !impl.IsBrowser(got) {
				t.Errorf("by %d: %+v", n, got)
			}
		}
		if ok != (n >= 1 && n <= 100) || !alike(got, want) {
			t.Errorf("StepTick(%d) = %+v, %v", n, got, ok)
		}
	}
	for _, now := range []int{math.MinInt, -101, -1, 0, 1, 9899, 9900, 9901, 9999, 10000, 10001, 1 << 40} {
		for _, n := range []int{math.MinInt, 0, 1, 2, 99, 100, 101, math.MaxInt} {
			b := impl.Browser{Now: now}
			want := 1 <= n && n <= 100 && 0 <= now && now <= 10000-n
			got, ok := impl.StepTick(b, n)
			if ok != want || ok && got.Now != now+n || !ok && !alike(got, b) {
				t.Errorf("from %d by %d: %+v, %v", now, n, got, ok)
			}
		}
	}
	// Sums wrap around, also where they are compared with a limit.
	if got, ok := impl.StepTick(impl.Browser{Now: math.MaxInt}, 1); !ok || got.Now != math.MinInt {
		t.Errorf("from the greatest int: %+v, %v", got, ok)
	}
}

func TestStepsKeepTheirArguments(t *testing.T) {
	roll := dice(351)
	for _, b := range []impl.Browser{browser32(), empty35(), full32(), {}} {
		for kind := 1; kind <= 7; kind++ {
			for range 3 {
				keeps(t, "a step", takeStep, b, someEvent(roll, kind, b))
			}
		}
		keeps(t, "StepInstall", impl.StepInstall, b, impl.SealPackage(b.Key, impl.Package{Ext: 4, Author: 1, Version: 1, Grants: all33()[:0]}))
		keeps(t, "StepInstall", impl.StepInstall, empty35(), fine27())
		keeps(t, "StepUpdate", impl.StepUpdate, b, next27(func(*impl.Package) {}), true)
		keeps(t, "StepGo", impl.StepGo, b, 0, impl.Site{Owner: 1})
		keeps(t, "StepTick", impl.StepTick, b, 1)
	}
}
