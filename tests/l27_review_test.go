package tests

import (
	"math"
	"slices"
	"testing"

	"loop.example/g03001/impl"
)

func grantFor(ext int, kind int, owner int, sub int) impl.Grant {
	return impl.Grant{Ext: ext, Pattern: impl.Pattern{Owner: owner, Sub: sub}, Kind: kind, Until: 40}
}

// fine27 passes the review with the key 5: it reads 1 and 3, sends to 2 and has rules for 2/*.
func fine27() impl.Package {
	return impl.SealPackage(5, impl.Package{
		Ext: 1, Author: 1, Version: 1,
		Grants: []impl.Grant{grantFor(1, impl.KdRead, 1, 4), grantFor(1, impl.KdRead, 3, -1), grantFor(1, impl.KdNet, 2, -1)},
		Flows:  []impl.Flow{{Ext: 1, From: 1, To: 2}, {Ext: 1, From: 3, To: 2}},
		Rules: []impl.Rule{
			{Ext: 1, Prio: 1, Pattern: impl.Pattern{Owner: 2, Sub: -1}, Action: impl.AcBlock},
			{Ext: 1, Prio: 2, Pattern: impl.Pattern{Owner: 2, Sub: 5}, Sort: 3, Action: impl.AcSend, To: impl.Site{Owner: 7}},
		},
		Ops: []impl.Op{step(impl.OpRead, 0, 1), step(impl.OpRead, 1, 3), step(impl.OpAdd, 2, 0, 1), step(impl.OpSend, 2, 2)},
	})
}

// withFine returns fine27 with a change, sealed again.
func withFine(change func(p *impl.Package)) impl.Package {
	p := fine27()
	change(&p)
	return impl.SealPackage(5, p)
}

// finePack returns a package of an extension that passes the review with the key 5.
func finePack(roll func(n int) int, ext int, version int) impl.Package {
	p := impl.Package{Ext: ext, Author: 1 + roll(2), Version: version}
	for range roll(6) {
		g := impl.Grant{Ext: ext, Pattern: impl.Pattern{Owner: roll(4), Sub: roll(4) - 1}, Kind: []int{1, 1, 2, 3, 3, 4}[roll(6)], From: roll(2) * roll(6), Click: roll(4) == 0}
		if roll(2) == 0 {
			g.Pattern = everywhere
		}
		g.Until = g.From + 10 + roll(90)
		p.Grants = append(p.Grants, g)
	}
	for _, g := range p.Grants {
		r := impl.Rule{Ext: ext, Prio: 1 + roll(3), Pattern: g.Pattern, Sort: roll(3), Action: 1 + roll(3)}
		if r.Pattern.Sub == -1 {
			r.Pattern.Sub = roll(3) - 1
		}
		if r.Action == impl.AcSend {
			r.To = impl.Site{Owner: 1 + roll(3), Sub: roll(2)}
		}
		if g.Kind == impl.KdNet {
			p.Rules = append(p.Rules, r)
		}
	}
	for _, o := range someSteps(roll) {
		kind := map[int]int{impl.OpRead: impl.KdRead, impl.OpSend: impl.KdNet}[o.Kind]
		if kind == 0 || has27(p.Grants, kind, o.B) {
			p.Ops = append(p.Ops, o)
		}
	}
	for len(impl.NeedsFlows(p.Ops, ext)) > 6 {
		p.Ops = p.Ops[:len(p.Ops)-1]
	}
	p.Flows = impl.NeedsFlows(p.Ops, ext)
	return impl.SealPackage(5, p)
}

// has27 says by other means whether there is a grant of a kind for an owner.
func has27(l []impl.Grant, kind int, owner int) bool {
	return slices.ContainsFunc(l, func(g impl.Grant) bool {
		return impl.IsGrant(g) && g.Kind == kind && (g.Pattern.Owner == owner || g.Pattern.Owner == 0)
	})
}

// ownersOf27 says by other means which owners a program reads or sends to.
func ownersOf27(l []impl.Op, kind int) []int {
	owners := []int{}
	for o := 1; o <= 9; o++ {
		if impl.AreOps(l) && slices.ContainsFunc(l, func(x impl.Op) bool { return x.Kind == kind && x.B == o }) {
			owners = append(owners, o)
		}
	}
	return owners
}

// review27 says by other means what the first reason is why a package does not pass.
func review27(key int, p impl.Package) int {
	reaches := func(r impl.Rule) bool {
		return slices.ContainsFunc(p.Grants, func(g impl.Grant) bool {
			if g.Kind != impl.KdNet {
				return false
			}
			for _, s := range allSites() {
				if matches(r.Pattern, s) && !matches(g.Pattern, s) {
					return false
				}
			}
			return true
		})
	}
	open := func(kind int, owners []int) bool {
		return slices.ContainsFunc(owners, func(o int) bool { return !has27(p.Grants, kind, o) })
	}
	switch {
	case !impl.IsPackage(p):
		return 1
	case key < 1 || key > 2147483646 || p.Seal != impl.KeyedHash(key, ints26(p)):
		return 2
	case slices.ContainsFunc(p.Rules, func(r impl.Rule) bool { return !reaches(r) }):
		return 3
	case open(impl.KdRead, ownersOf27(p.Ops, impl.OpRead)):
		return 4
	case open(impl.KdNet, ownersOf27(p.Ops, impl.OpSend)):
		return 5
	case slices.ContainsFunc(impl.NeedsFlows(p.Ops, p.Ext), func(f impl.Flow) bool { return !slices.Contains(p.Flows, f) }):
		return 6
	}
	return 0
}

func TestReviewConstants(t *testing.T) {
	got := []int{impl.RvFine, impl.RvForm, impl.RvSeal, impl.RvRule, impl.RvRead, impl.RvSend, impl.RvFlow}
	if !slices.Equal(got, []int{0, 1, 2, 3, 4, 5, 6}) {
		t.Error(got)
	}
}

func TestReviewPackage(t *testing.T) {
	for i, c := range []struct {
		p    impl.Package
		want int
	}{
		{fine27(), 0},
		{impl.SealPackage(5, plain26()), 0},
		{impl.Package{}, 1},
		{withFine(func(p *impl.Package) { p.Version = 0 }), 1},
		{withFine(func(p *impl.Package) { p.Ops = append(p.Ops, impl.Op{}) }), 1},
		{plain26(), 2},
		{impl.SealPackage(77, fine27()), 2},
		{impl.SealPackage(0, fine27()), 2},
		// A grant of another kind, for another owner or part, does not do for a rule; one for all parts does for a part.
		{withFine(func(p *impl.Package) { p.Grants[2].Kind = impl.KdRead }), 3},
		{withFine(func(p *impl.Package) { p.Grants[2].Kind = impl.KdStore }), 3},
		{withFine(func(p *impl.Package) { p.Grants[2].Pattern.Owner = 3 }), 3},
		{withFine(func(p *impl.Package) { p.Grants[2].Pattern.Sub = 5 }), 3},
		{withFine(func(p *impl.Package) { p.Grants[2].Pattern.Sub, p.Rules = 5, p.Rules[1:] }), 0},
		{withFine(func(p *impl.Package) { p.Grants[2].Pattern.Sub, p.Rules = 4, p.Rules[1:] }), 3},
		{withFine(func(p *impl.Package) { p.Rules[1].Pattern.Sub = -1 }), 0},
		{withFine(func(p *impl.Package) { p.Rules[1].Pattern.Owner = 7 }), 3},
		{withFine(func(p *impl.Package) { p.Grants = nil }), 3},
		// Where a rule sends to is not asked for.
		{withFine(func(p *impl.Package) { p.Rules[1].To = impl.Site{Owner: 9, Sub: 9} }), 0},
		{withFine(func(p *impl.Package) { p.Grants[0].Kind = impl.KdWrite }), 4},
		{withFine(func(p *impl.Package) { p.Grants[0].Pattern.Owner = 2 }), 4},
		{withFine(func(p *impl.Package) { p.Grants[1].Pattern.Owner = 1 }), 4},
		{withFine(func(p *impl.Package) { p.Ops[1].B = 4 }), 4},
		{withFine(func(p *impl.Package) { p.Grants[1].Pattern.Owner = 0; p.Grants[0].Kind = impl.KdWrite }), 0},
		{withFine(func(p *impl.Package) { p.Rules, p.Grants[2].Pattern.Owner = nil, 3 }), 5},
		{withFine(func(p *impl.Package) { p.Ops[3].B = 1 }), 5},
		{withFine(func(p *impl.Package) { p.Ops[3].B = 1; p.Grants[2].Pattern.Owner = 0 }), 6},
		{withFine(func(p *impl.Package) { p.Flows = nil }), 6},
		{withFine(func(p *impl.Package) { p.Flows = p.Flows[1:] }), 6},
		{withFine(func(p *impl.Package) { p.Flows[0].To = 3 }), 6},
		// More may be declared than is done.
		{withFine(func(p *impl.Package) { p.Ops = nil }), 0},
		{withFine(func(p *impl.Package) { p.Ops, p.Flows, p.Rules, p.Grants = nil, nil, nil, p.Grants[:2] }), 0},
		// The time and the click of a grant are not asked for.
		{withFine(func(p *impl.Package) { p.Grants[2].From, p.Grants[2].Until, p.Grants[2].Click = 40, 40, true }), 0},
	} {
		if got := impl.ReviewPackage(5, c.p); got != c.want || got != review27(5, c.p) {
			t.Errorf("%d: ReviewPackage(%+v) = %d, want %d", i, c.p, got, c.want)
		}
	}
	for _, key := range notKeys {
		if got := impl.ReviewPackage(key, impl.SealPackage(key, fine27())); got != impl.RvSeal {
			t.Errorf("with the key %d: %d", key, got)
		}
		if got := impl.ReviewPackage(key, impl.Package{}); got != impl.RvForm {
			t.Errorf("no package with the key %d: %d", key, got)
		}
	}
	for why, p := range notPackages() {
		if got := impl.ReviewPackage(5, impl.SealPackage(5, p)); got != impl.RvForm {
			t.Errorf("%s: %d", why, got)
		}
	}
}

// TestReviewsOfRulesForAllSites has rules and grants with all kinds of patterns for all sites or some.
func TestReviewsOfRulesForAllSites(t *testing.T) {
	patterns := []impl.Pattern{everywhere, {Owner: 0, Sub: 3}, {Owner: 2, Sub: -1}, {Owner: 2, Sub: 3}}
	for i, rule := range patterns {
		for j, first := range patterns {
			for k, last := range patterns {
				p := withFine(func(p *impl.Package) {
					p.Ops, p.Flows = nil, nil
					p.Rules = []impl.Rule{{Ext: 1, Prio: 1, Pattern: rule, Action: impl.AcAllow}}
					p.Grants[0], p.Grants[1].Pattern, p.Grants[2].Pattern = grantFor(1, impl.KdNet, first.Owner, first.Sub), everywhere, last
				})
				// The first pattern has all sites, the last one is for just one site.
				within := func(n int) bool { return n == 0 || n == i || i == 3 }
				want := impl.RvRule
				if within(j) || within(k) {
					want = impl.RvFine
				}
				if got := impl.ReviewPackage(5, p); got != want || got != review27(5, p) {
					t.Errorf("a rule for %+v with grants for %+v and %+v: %d", rule, first, last, got)
				}
			}
		}
	}
}

// TestAPackageThatPassesDoesOnlyWhatItDeclares runs the programs of packages that pass and asks for everything that comes of it.
func TestAPackageThatPassesDoesOnlyWhatItDeclares(t *testing.T) {
	roll := dice(27)
	codes := [7]int{}
	for range 12000 {
		p := finePack(roll, 1+roll(5), 1)
		key := 5
		switch roll(9) {
		case 0:
			p.Grants = append(p.Grants, grantFor(p.Ext, 1+roll(4), roll(4), -1))
		case 1:
			if len(p.Grants) > 0 {
				p.Grants = slices.Delete(p.Grants, 0, 1)
			}
		case 2:
			if len(p.Flows) > 0 {
				p.Flows = slices.Delete(p.Flows, 0, 1)
			}
		case 6:
			p.Rules = nil
			p.Grants = slices.DeleteFunc(p.Grants, func(g impl.Grant) bool { return g.Kind == impl.KdNet })
		case 3:
			if len(p.Ops) > 0 {
				p.Ops[roll(len(p.Ops))].B = roll(10)
			}
		case 4:
			if len(p.Rules) > 0 {
				p.Rules[0].Pattern.Owner = roll(5)
			}
		case 5:
			p.Author = roll(11)
		}
		if roll(9) > 0 {
			p = impl.SealPackage(5, p)
		}
		if roll(20) == 0 {
			key = 6
		}
		got := impl.ReviewPackage(key, p)
		if want := review27(key, p); got != want {
			t.Fatalf("ReviewPackage(%d, %+v) = %d, want %d", key, p, got, want)
		}
		codes[got]++
		if got != impl.RvFine {
			continue
		}
		all, _ := trace21(p.Ops, []int{1, 2, 3, 4})
		sent := impl.RunOps(p.Ops, []int{1, 2, 3, 4}, p.Flows, p.Ext)
		if !slices.Equal(sent, all) {
			t.Fatalf("%+v passes, and yet %+v is sent of %+v", p, sent, all)
		}
		for _, s := range sent {
			owners, _ := owners19(s.Label)
			for _, o := range owners {
				if !has27(p.Grants, impl.KdRead, o) || o != s.To && !slices.Contains(p.Flows, impl.Flow{Ext: p.Ext, From: o, To: s.To}) {
					t.Fatalf("%+v passes and sends %+v", p, s)
				}
			}
			if !has27(p.Grants, impl.KdNet, s.To) {
				t.Fatalf("%+v passes and sends %+v", p, s)
			}
		}
		for _, q := range requests() {
			for _, r := range p.Rules {
				mayNet := slices.ContainsFunc(p.Grants, func(g impl.Grant) bool { return g.Kind == impl.KdNet && matches(g.Pattern, q.Site) })
				if impl.Applies(r, q) && !mayNet {
					t.Fatalf("%+v passes and rules over %+v", p, q)
				}
			}
		}
	}
	for code, n := range codes {
		if n < 30 {
			t.Errorf("%d packages have the code %d", n, code)
		}
	}
}

func TestReviewName(t *testing.T) {
	for code, want := range map[int]string{0: "fine", 1: "form", 2: "seal", 3: "rule", 4: "read", 5: "send", 6: "flow", 7: "", -1: "", math.MaxInt: "", math.MinInt: ""} {
		if got := impl.ReviewName(code); got != want {
			t.Errorf("ReviewName(%d) = %q", code, got)
		}
	}
}

func TestOwnersReadAndSent(t *testing.T) {
	roll := dice(270)
	for range 2000 {
		l := someSteps(roll)
		if got := impl.OwnersRead(l); !slices.Equal(got, ownersOf27(l, impl.OpRead)) {
			t.Fatalf("OwnersRead(%+v) = %v", l, got)
		}
		if got := impl.OwnersSent(l); !slices.Equal(got, ownersOf27(l, impl.OpSend)) {
			t.Fatalf("OwnersSent(%+v) = %v", l, got)
		}
	}
	l := []impl.Op{step(impl.OpSend, 0, 9), step(impl.OpRead, 0, 7), step(impl.OpConst, 0, 3), step(impl.OpAdd, 0, 4, 5), step(impl.OpChoose, 0, 5, 5), step(impl.OpRead, 0, 2), step(impl.OpRead, 1, 7), step(impl.OpSend, 0, 1), step(impl.OpSend, 5, 9)}
	if !slices.Equal(impl.OwnersRead(l), []int{2, 7}) || !slices.Equal(impl.OwnersSent(l), []int{1, 9}) {
		t.Error(impl.OwnersRead(l), impl.OwnersSent(l))
	}
	for _, l := range append(notPrograms(), nil, []impl.Op{}) {
		if len(impl.OwnersRead(l)) != 0 || len(impl.OwnersSent(l)) != 0 {
			t.Errorf("of %+v: %v and %v", l, impl.OwnersRead(l), impl.OwnersSent(l))
		}
	}
}

func TestHasGrantFor(t *testing.T) {
	roll := dice(271)
	for range 300 {
		l := someGrants(roll, 4)
		for kind := -1; kind <= 6; kind++ {
			for owner := -2; owner <= 11; owner++ {
				if got := impl.HasGrantFor(l, kind, owner); got != has27(l, kind, owner) {
					t.Fatalf("HasGrantFor(%+v, %d, %d) = %v", l, kind, owner, got)
				}
			}
		}
	}
	for i, g := range badGrants() {
		if impl.HasGrantFor([]impl.Grant{g}, g.Kind, g.Pattern.Owner) {
			t.Errorf("%d: %+v is a grant", i, g)
		}
		if !impl.HasGrantFor([]impl.Grant{g, grantFor(1, impl.KdStore, 7, 3)}, impl.KdStore, 7) || impl.HasGrantFor([]impl.Grant{g}, impl.KdStore, 7) {
			t.Errorf("%d: beside %+v", i, g)
		}
	}
	all := []impl.Grant{grantFor(1, impl.KdNet, 0, 3)}
	one := []impl.Grant{grantFor(1, impl.KdNet, 4, 3)}
	for _, owner := range []int{math.MinInt, -1, 0, 1, 4, 9, 10, math.MaxInt} {
		if !impl.HasGrantFor(all, impl.KdNet, owner) || impl.HasGrantFor(one, impl.KdNet, owner) != (owner == 4) || impl.HasGrantFor(nil, impl.KdNet, owner) {
			t.Errorf("for the owner %d", owner)
		}
	}
}

func TestReviewsKeepTheirArguments(t *testing.T) {
	for _, p := range []impl.Package{fine27(), {}, pack26(), withFine(func(p *impl.Package) { p.Flows = nil })} {
		keeps(t, "ReviewPackage", impl.ReviewPackage, 5, p)
		keeps(t, "OwnersRead", impl.OwnersRead, p.Ops)
		keeps(t, "OwnersSent", impl.OwnersSent, p.Ops)
		keeps(t, "HasGrantFor", impl.HasGrantFor, p.Grants, 1, 1)
	}
}
