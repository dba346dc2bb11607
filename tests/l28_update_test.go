package tests

import (
	"math"
	"slices"
	"testing"

	"loop.example/g03001/impl"
)

// next27 returns the next version of fine27 with a change, sealed.
func next27(change func(p *impl.Package)) impl.Package {
	return withFine(func(p *impl.Package) {
		p.Version = 2
		change(p)
	})
}

// lies28 says by other means whether a grant lies within one of a list.
func lies28(g impl.Grant, l []impl.Grant) bool {
	return slices.ContainsFunc(l, func(y impl.Grant) bool {
		if !impl.IsGrant(g) || !impl.IsGrant(y) || g.Ext != y.Ext || g.Kind != y.Kind || y.Click && !g.Click || g.From < y.From || g.Until > y.Until {
			return false
		}
		for _, s := range allSites() {
			if matches(g.Pattern, s) && !matches(y.Pattern, s) {
				return false
			}
		}
		return true
	})
}

// wider28 says by other means whether a package has more than an older one.
func wider28(old impl.Package, p impl.Package) bool {
	return slices.ContainsFunc(p.Grants, func(g impl.Grant) bool { return !lies28(g, old.Grants) }) ||
		slices.ContainsFunc(p.Flows, func(f impl.Flow) bool { return !impl.IsFlow(f) || !slices.Contains(old.Flows, f) })
}

func TestUpdateConstants(t *testing.T) {
	if got := []int{impl.UpDone, impl.UpForm, impl.UpOld, impl.UpConsent}; !slices.Equal(got, []int{0, 1, 2, 3}) {
		t.Error(got)
	}
	for code, want := range map[int]string{0: "done", 1: "form", 2: "old", 3: "consent", 4: "", -1: "", math.MaxInt: "", math.MinInt: ""} {
		if got := impl.UpdateName(code); got != want {
			t.Errorf("UpdateName(%d) = %q", code, got)
		}
	}
}

func TestUpdates(t *testing.T) {
	old := fine27()
	for i, c := range []struct {
		p             impl.Package
		free, consent int
	}{
		{next27(func(*impl.Package) {}), 0, 0},
		{next27(func(p *impl.Package) { p.Version = 999 }), 0, 0},
		{next27(func(p *impl.Package) { p.Version = 1 }), 2, 2},
		{next27(func(p *impl.Package) { p.Version = 1000 }), 1, 1},
		{next27(func(p *impl.Package) { p.Version = 0 }), 1, 1},
		{next27(func(p *impl.Package) { p.Author = 2 }), 1, 1},
		{next27(func(p *impl.Package) {
			p.Ext = 2
			for i := range p.Grants {
				p.Grants[i].Ext = 2
			}
			for i := range p.Flows {
				p.Flows[i].Ext = 2
				p.Rules[i].Ext = 2
			}
		}), 1, 1},
		{impl.SealPackage(77, next27(func(*impl.Package) {})), 1, 1},
		{next27(func(p *impl.Package) { p.Flows = nil }), 1, 1},
		{impl.Package{}, 1, 1},
		// These narrow only.
		{next27(func(p *impl.Package) { p.Grants[0].From, p.Grants[0].Until = 1, 39 }), 0, 0},
		{next27(func(p *impl.Package) { p.Grants[1].Pattern.Sub = 4 }), 0, 0},
		{next27(func(p *impl.Package) { p.Grants[2].Click = true }), 0, 0},
		{next27(func(p *impl.Package) { p.Ops, p.Flows, p.Rules, p.Grants = nil, nil, nil, nil }), 0, 0},
		{next27(func(p *impl.Package) { p.Grants = append(p.Grants, p.Grants[0], p.Grants[1]) }), 0, 0},
		{next27(func(p *impl.Package) { p.Flows = append(p.Flows, p.Flows[0]) }), 0, 0},
		// Other rules and steps within the same grants and flows widen nothing.
		{next27(func(p *impl.Package) { p.Rules[0].Prio, p.Rules[0].Action = 9, impl.AcAllow }), 0, 0},
		{next27(func(p *impl.Package) { p.Ops = p.Ops[:1] }), 0, 0},
		// These widen.
		{next27(func(p *impl.Package) { p.Grants[0].Until = 41 }), 3, 0},
		{next27(func(p *impl.Package) { p.Grants[0].Pattern.Sub = -1 }), 3, 0},
		{next27(func(p *impl.Package) { p.Grants[0].Pattern.Sub = 5 }), 3, 0},
		{next27(func(p *impl.Package) { p.Grants[2].Pattern.Owner = 0 }), 3, 0},
		{next27(func(p *impl.Package) { p.Grants = append(p.Grants, grantFor(1, impl.KdStore, 1, 4)) }), 3, 0},
		{next27(func(p *impl.Package) { p.Flows = append(p.Flows, impl.Flow{Ext: 1, From: 2, To: 1}) }), 3, 0},
		// Both old and wider: the version comes first.
		{next27(func(p *impl.Package) { p.Grants[0].Until, p.Version = 41, 1 }), 2, 2},
	} {
		for consent, want := range map[bool]int{false: c.free, true: c.consent} {
			if got := impl.UpdateCode(5, old, c.p, consent); got != want {
				t.Errorf("%d: UpdateCode(%+v, %v) = %d, want %d", i, c.p, consent, got, want)
			}
			wanted := old
			if want == impl.UpDone {
				wanted = c.p
			}
			if got, ok := impl.UpdatePackage(5, old, c.p, consent); ok != (want == impl.UpDone) || !alike(got, wanted) {
				t.Errorf("%d: UpdatePackage(%+v, %v) = %+v, %v", i, c.p, consent, got, ok)
			}
		}
	}
}

// TestUpdatesOfWhatIsNoPackage asks for the older package: it must be one, but need not be sealed.
func TestUpdatesOfWhatIsNoPackage(t *testing.T) {
	p := next27(func(*impl.Package) {})
	for why, old := range notPackages() {
		old.Ext, old.Author, old.Version = 1, 1, min(old.Version, 1)
		if impl.IsPackage(old) {
			continue
		}
		if got := impl.UpdateCode(5, old, p, true); got != impl.UpForm {
			t.Errorf("%s: %d", why, got)
		}
		if got, ok := impl.UpdatePackage(5, old, p, true); ok || !alike(got, old) {
			t.Errorf("%s: %+v, %v", why, got, ok)
		}
	}
	old := fine27()
	old.Seal = 0
	if got, ok := impl.UpdatePackage(5, old, p, false); !ok || !alike(got, p) {
		t.Errorf("%+v, %v", got, ok)
	}
	old.Rules[0].Pattern = everywhere
	if got := impl.UpdateCode(5, old, p, false); got != impl.UpDone {
		t.Errorf("an older one that would not pass: %d", got)
	}
	for _, key := range notKeys {
		if got, ok := impl.UpdatePackage(key, fine27(), impl.SealPackage(key, p), true); ok || !alike(got, fine27()) {
			t.Errorf("with the key %d: %+v", key, got)
		}
	}
}

// TestWithoutConsentNothingIsWidened updates at random, and asks what the newer packages may do that the older ones may not.
func TestWithoutConsentNothingIsWidened(t *testing.T) {
	roll := dice(28)
	codes := [4]int{}
	for range 3000 {
		old := finePack(roll, 1, 1+roll(2))
		p := finePack(roll, 1, 1+roll(4))
		if roll(2) == 0 {
			// Much like the old one.
			p = cloned(old)
			p.Version += roll(3)
			if len(p.Grants) > 0 {
				*[]*int{&p.Grants[0].From, &p.Grants[0].Until, &p.Grants[0].Pattern.Sub, new(int)}[roll(4)] += roll(3) - 1
			}
			p = impl.SealPackage(5, p)
		}
		wider := wider28(old, p)
		if got := impl.IsWider(old, p); got != wider {
			t.Fatalf("IsWider(%+v, %+v) = %v", old, p, got)
		}
		for _, consent := range []bool{false, true} {
			want := impl.UpDone
			switch {
			case !impl.IsPackage(old) || review27(5, p) != 0 || old.Ext != p.Ext || old.Author != p.Author:
				want = impl.UpForm
			case p.Version <= old.Version:
				want = impl.UpOld
			case wider && !consent:
				want = impl.UpConsent
			}
			if got := impl.UpdateCode(5, old, p, consent); got != want {
				t.Fatalf("UpdateCode(%+v, %+v, %v) = %d, want %d", old, p, consent, got, want)
			}
			codes[want]++
		}
		now, ok := impl.UpdatePackage(5, old, p, false)
		if !ok {
			continue
		}
		for range 60 {
			s, kind, tick, clicked := allSites()[roll(90)], 1+roll(4), roll(110), roll(2) == 0
			if impl.IsAllowed(now.Grants, 1, s, kind, tick, clicked) && !impl.IsAllowed(old.Grants, 1, s, kind, tick, clicked) {
				t.Fatalf("without consent %+v becomes %+v, which may do the kind %d at %+v and %d", old, now, kind, s, tick)
			}
			label, to := 2*roll(512), 1+roll(9)
			if impl.MayFlow(now.Flows, 1, label, to) && !impl.MayFlow(old.Flows, 1, label, to) {
				t.Fatalf("without consent %+v becomes %+v, which may send %d to %d", old, now, label, to)
			}
		}
	}
	for code, n := range codes {
		if n < 100 {
			t.Errorf("%d updates have the code %d", n, code)
		}
	}
}

func TestIsWiderOfAnyPackages(t *testing.T) {
	old := fine27()
	for i, g := range badGrants() {
		p := impl.Package{Grants: []impl.Grant{g}}
		if !impl.IsWider(p, p) || !impl.IsWider(old, p) || impl.IsWider(p, impl.Package{}) {
			t.Errorf("%d: with %+v", i, g)
		}
	}
	for i, f := range badFlows {
		p := impl.Package{Flows: []impl.Flow{f}}
		if !impl.IsWider(p, p) || !impl.IsWider(old, p) || impl.IsWider(p, impl.Package{}) {
			t.Errorf("%d: with %+v", i, f)
		}
	}
	// A grant of the same sites in two halves is no grant of all.
	halves := impl.Package{Grants: []impl.Grant{grantFor(1, 1, 1, 4), grantFor(1, 1, 1, 4)}}
	halves.Grants[0].Until, halves.Grants[1].From = 20, 21
	if !impl.IsWider(halves, impl.Package{Grants: []impl.Grant{grantFor(1, 1, 1, 4)}}) || impl.IsWider(impl.Package{}, impl.Package{}) {
		t.Error("halves")
	}
}

func TestWidenedGrants(t *testing.T) {
	roll := dice(280)
	for range 2000 {
		old, p := impl.Package{Grants: someGrants(roll, 4)}, impl.Package{Grants: someGrants(roll, 6)}
		want := []impl.Grant{}
		for _, g := range p.Grants {
			if !lies28(g, old.Grants) {
				want = append(want, g)
			}
		}
		if got := impl.WidenedGrants(old, p); !slices.Equal(got, want) {
			t.Fatalf("WidenedGrants(%+v, %+v) = %+v, want %+v", old, p, got, want)
		}
		if got := impl.IsWider(old, p); got != (len(want) > 0) {
			t.Fatalf("IsWider(%+v, %+v) = %v", old, p, got)
		}
	}
	if got := impl.WidenedGrants(fine27(), impl.Package{}); len(got) != 0 {
		t.Errorf("of nothing: %+v", got)
	}
}

func TestUpdatesKeepTheirArguments(t *testing.T) {
	old := fine27()
	for _, p := range []impl.Package{next27(func(*impl.Package) {}), next27(func(p *impl.Package) { p.Grants[0].Until = 41 }), {}} {
		for _, consent := range []bool{false, true} {
			keeps(t, "UpdateCode", impl.UpdateCode, 5, old, p, consent)
			keeps(t, "UpdatePackage", impl.UpdatePackage, 5, old, p, consent)
		}
		keeps(t, "IsWider", impl.IsWider, old, p)
		keeps(t, "WidenedGrants", impl.WidenedGrants, old, p)
	}
}
