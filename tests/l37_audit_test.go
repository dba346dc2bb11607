package tests

import (
	"math"
	"slices"
	"testing"

	"loop.example/g03001/impl"
)

// sound37 is browser32 with the package of 1 alone and with what a click lends to it; the audit finds nothing.
func sound37() impl.Browser {
	b, _ := impl.StepRemove(browser32(), 2)
	b, _ = impl.StepClick(b, 0, 1)
	return b
}

func withSound(change func(b *impl.Browser)) impl.Browser {
	b := sound37()
	change(&b)
	return b
}

// pack37 returns the first package of an extension, or the zero one.
func pack37(b impl.Browser, ext int) impl.Package {
	for _, p := range b.Packs {
		if p.Ext == ext {
			return p
		}
	}
	return impl.Package{}
}

// faults37 says by other means what does not hold.
func faults37(b impl.Browser, values []int) [4]bool {
	var f [4]bool
	for _, g := range b.Grants {
		lent := slices.Contains(append(lent12(g.Ext, impl.Site(g.Pattern), g.From), impl.Grant{}), g) && impl.IsGrant(g) && g.Pattern.Owner > 0 && g.Pattern.Sub >= 0
		f[0] = f[0] || !lent && !lies28(g, pack37(b, g.Ext).Grants)
	}
	for _, p := range b.Packs {
		f[1] = f[1] || review27(b.Key, p) != 0
		for _, s := range sent34(b, p.Ext, values) {
			f[3] = f[3] || !mayFlow(p.Flows, p.Ext, s.Label, s.To)
		}
	}
	for _, r := range b.Rules {
		f[2] = f[2] || !slices.Contains(pack37(b, r.Ext).Rules, r)
	}
	return f
}

// fault37 says by other means what the first fault is.
func fault37(b impl.Browser) string {
	if !isBrowser32(b) {
		return "browser"
	}
	f := faults37(b, nil)
	if i := slices.Index(f[:], true); i >= 0 {
		return []string{"grant", "review", "rule", "flow"}[i]
	}
	return ""
}

func checkAudit(t *testing.T, what string, b impl.Browser) {
	t.Helper()
	values := []int{3, 4, 5}
	f := faults37(b, values)
	if impl.IsGranted(b) == f[0] || impl.IsReviewed(b) == f[1] || impl.IsRuled(b) == f[2] || impl.IsDeclared(b, values) == f[3] {
		t.Errorf("%s: %v, %v, %v, %v, and the faults %v", what, impl.IsGranted(b), impl.IsReviewed(b), impl.IsRuled(b), impl.IsDeclared(b, values), f)
	}
	if got := impl.FaultOf(b); got != fault37(b) {
		t.Errorf("%s: FaultOf = %q, want %q", what, got, fault37(b))
	}
}

// TestAllPromisesHoldAtEveryMoment audits browsers after every event of many histories.
func TestAllPromisesHoldAtEveryMoment(t *testing.T) {
	roll := dice(37)
	for range 120 {
		b := empty35()
		for range 30 {
			e := someEvent(roll, 1+roll(10), b)
			b, _ = impl.ApplyEvent(b, e)
			if got := impl.FaultOf(b); got != "" || !impl.IsDeclared(b, []int{1, 2, 3, 4}) {
				t.Fatalf("after %+v: %q in %+v", e, got, b)
			}
			for ext := 1; ext <= 5; ext++ {
				if impl.PackOf(b, ext) < 0 && impl.TracesOf(b, ext) != 0 {
					t.Fatalf("after %+v: %d has left %d traces in %+v", e, ext, impl.TracesOf(b, ext), b)
				}
			}
		}
	}
}

func TestFaultOf(t *testing.T) {
	more := impl.SealPackage(5, impl.Package{Ext: 3, Author: 1, Version: 1})
	for i, c := range []struct {
		change func(b *impl.Browser)
		want   string
	}{
		{func(*impl.Browser) {}, ""},
		{func(b *impl.Browser) { b.Now = -1 }, "browser"},
		{func(b *impl.Browser) { b.Key = 77 }, "browser"},
		{func(b *impl.Browser) { b.Packs = nil }, "browser"},
		{func(b *impl.Browser) { b.Tabs = nil }, "browser"},
		{func(b *impl.Browser) { b.Rules[0].Ext = 2 }, "browser"},
		{func(b *impl.Browser) { b.Grants[0].Until = 41 }, "grant"},
		{func(b *impl.Browser) { b.Grants[0].Until = 39 }, ""},
		{func(b *impl.Browser) { b.Grants[0].Pattern.Sub = 5 }, "grant"},
		{func(b *impl.Browser) { b.Grants[0].Kind = impl.KdStore }, "grant"},
		{func(b *impl.Browser) { b.Grants[1].Click = true }, ""},
		{func(b *impl.Browser) { b.Grants[4].Until++ }, "grant"},
		{func(b *impl.Browser) { b.Grants[4].Until-- }, "grant"},
		{func(b *impl.Browser) { b.Grants = slices.Repeat(b.Grants[3:], 8) }, ""},
		{func(b *impl.Browser) { b.Grants = nil }, ""},
		{func(b *impl.Browser) { b.Packs[0] = withFine(func(p *impl.Package) { p.Flows = nil }) }, "review"},
		{func(b *impl.Browser) { b.Packs = append(b.Packs, more) }, ""},
		{func(b *impl.Browser) { b.Rules[0].Prio++ }, "rule"},
		{func(b *impl.Browser) { b.Rules = b.Rules[1:] }, ""},
		{func(b *impl.Browser) { b.Rules = append(b.Rules, b.Rules...) }, ""},
		{func(b *impl.Browser) { b.Packs[0] = withFine(func(p *impl.Package) { p.Rules = p.Rules[1:] }) }, "rule"},
		// The first one of several is named.
		{func(b *impl.Browser) { b.Rules[0].Prio++; b.Now = 10001 }, "browser"},
		{func(b *impl.Browser) { b.Rules[0].Prio++; b.Grants[0].Until = 41 }, "grant"},
		{func(b *impl.Browser) { b.Packs[0] = withFine(func(p *impl.Package) { p.Flows, p.Rules = nil, nil }) }, "review"},
	} {
		b := withSound(c.change)
		if got := impl.FaultOf(b); got != c.want {
			t.Errorf("%d: FaultOf(%+v) = %q, want %q", i, b, got, c.want)
		}
		checkAudit(t, string(rune('a'+i)), b)
	}
	if got := impl.FaultOf(impl.Browser{}); got != "browser" {
		t.Errorf("the zero browser: %q", got)
	}
	for why, b := range notBrowsers() {
		checkAudit(t, why, b)
	}
	for _, x := range variants(sound37()) {
		checkAudit(t, x.where, x.value)
	}
}

// TestBrowsersWithOrphanedRules have rules, grants and more of what is not installed.
func TestBrowsersWithOrphanedRules(t *testing.T) {
	b := sound37()
	rules, grants, lent := b.Rules, b.Grants[:3], b.Grants[3:]
	for i, c := range []struct {
		b    impl.Browser
		want [4]bool
	}{
		{impl.Browser{Rules: rules}, [4]bool{false, false, true, false}},
		{impl.Browser{Grants: grants}, [4]bool{true, false, false, false}},
		{impl.Browser{Grants: lent}, [4]bool{}},
		{impl.Browser{}, [4]bool{}},
		{impl.Browser{Rules: []impl.Rule{{}}, Grants: []impl.Grant{{}}, Packs: []impl.Package{{}}}, [4]bool{true, true, true, false}},
		{impl.Browser{Rules: []impl.Rule{{}}, Packs: []impl.Package{{Rules: []impl.Rule{{}}}}}, [4]bool{false, true, false, false}},
		{impl.Browser{Packs: b.Packs, Rules: append(slices.Clone(rules), own17(2, 1)...)}, [4]bool{false, true, true, false}},
		{impl.Browser{Key: 5, Packs: b.Packs, Rules: rules, Grants: append(slices.Clone(grants), grantFor(2, 1, 1, 4))}, [4]bool{true, false, false, false}},
		{impl.Browser{Key: 5, Packs: b.Packs, Rules: rules[1:], Grants: grants[:1]}, [4]bool{}},
		// The rules and grants of the package of another extension are not those of this one.
		{impl.Browser{Key: 5, Packs: append([]impl.Package{{Ext: 2, Rules: rules, Grants: grants}}, b.Packs...), Rules: rules, Grants: grants}, [4]bool{false, true, false, false}},
		{impl.Browser{Key: 5, Packs: []impl.Package{{Ext: 2, Rules: rules, Grants: grants}}, Rules: rules, Grants: grants}, [4]bool{true, true, true, false}},
		// Of two packages of an extension the first one counts, but what it sends must be declared by both.
		{impl.Browser{Key: 5, Packs: []impl.Package{{Ext: 1}, b.Packs[0]}, Rules: rules, Grants: grants}, [4]bool{true, true, true, false}},
		{impl.Browser{Key: 5, Packs: []impl.Package{b.Packs[0], {Ext: 1}}, Rules: rules, Grants: grants}, [4]bool{false, true, false, true}},
	} {
		got := [4]bool{!impl.IsGranted(c.b), !impl.IsReviewed(c.b), !impl.IsRuled(c.b), !impl.IsDeclared(c.b, []int{1})}
		if got != c.want || got != faults37(c.b, []int{1}) {
			t.Errorf("%d: the faults %v, want %v", i, got, c.want)
		}
		if got := impl.FaultOf(c.b); got != "browser" {
			t.Errorf("%d: FaultOf = %q", i, got)
		}
	}
	orphans := withSound(func(b *impl.Browser) { b.Packs = nil })
	if impl.TracesOf(orphans, 1) != 3+2+2+2+1 {
		t.Errorf("the orphans of 1 are %d", impl.TracesOf(orphans, 1))
	}
}

func TestTracesOf(t *testing.T) {
	b := browser32()
	for ext, want := range map[int]int{1: 1 + 3 + 2 + 2 + 1, 2: 1 + 2 + 2 + 1 + 1, 3: 0, 4: 0, 5: 0, 6: 0, -1: 0, math.MaxInt: 0, math.MinInt: 0} {
		if got := impl.TracesOf(b, ext); got != want {
			t.Errorf("TracesOf(%d) = %d, want %d", ext, got, want)
		}
		if got := impl.TracesOf(impl.Browser{}, ext); got != 0 {
			t.Errorf("of nothing: %d", got)
		}
	}
	// Each kind of thing counts once, in all tabs, and limits, flows and clicks do not count.
	for i, c := range []struct {
		b    impl.Browser
		want int
	}{
		{impl.Browser{Packs: []impl.Package{{Ext: 4, Grants: make([]impl.Grant, 3)}, {Ext: 3}, {Ext: 4}}}, 2},
		{impl.Browser{Grants: []impl.Grant{{Ext: 4}, {Ext: 3}, {Ext: 4}, {Ext: 4}}}, 3},
		{impl.Browser{Limits: []impl.Limit{{Ext: 4}, {Ext: 4}}}, 0},
		{impl.Browser{Rules: []impl.Rule{{Ext: 4}, {Ext: 5}, {Ext: 4}}}, 2},
		{impl.Browser{Store: []impl.Stored{{Ext: 4}, {Name: 4}, {Value: 4}}}, 1},
		{impl.Browser{Tabs: []impl.Tab{{Edits: []impl.Edit{{By: 4}, {By: 4, Node: 4}, {Node: 4}}}, {}, {Edits: []impl.Edit{{By: 4}}, Base: []impl.Node{{By: 4}}}}}, 3},
	} {
		if got := impl.TracesOf(c.b, 4); got != c.want {
			t.Errorf("%d: %d, want %d", i, got, c.want)
		}
	}
	// The page is no extension, but what has the number 0 is counted like everything else.
	if got := impl.TracesOf(b, 0); got != 1 {
		t.Errorf("TracesOf(0) = %d", got)
	}
}

func TestAuditsKeepTheirArguments(t *testing.T) {
	for _, b := range []impl.Browser{browser32(), sound37(), full32(), {}} {
		keeps(t, "TracesOf", impl.TracesOf, b, 1)
		keeps(t, "IsGranted", impl.IsGranted, b)
		keeps(t, "IsReviewed", impl.IsReviewed, b)
		keeps(t, "IsRuled", impl.IsRuled, b)
		keeps(t, "IsDeclared", impl.IsDeclared, b, []int{1, 2})
		keeps(t, "FaultOf", impl.FaultOf, b)
	}
}
