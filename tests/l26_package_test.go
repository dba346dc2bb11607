package tests

import (
	"slices"
	"testing"

	"loop.example/g03001/impl"
)

// pack26 has something in each of its lists; it reads 1 and sends to 4.
func pack26() impl.Package {
	return impl.Package{
		Ext: 2, Author: 1, Version: 3,
		Grants: []impl.Grant{
			{Ext: 2, Pattern: impl.Pattern{Owner: 4, Sub: -1}, Kind: impl.KdNet, From: 1, Until: 9, Click: true},
			{Ext: 2, Pattern: impl.Pattern{Owner: 1, Sub: 3}, Kind: impl.KdRead, From: 5, Until: 30},
		},
		Flows: []impl.Flow{{Ext: 2, From: 1, To: 4}, {Ext: 2, From: 5, To: 6}},
		Rules: []impl.Rule{
			{Ext: 2, Prio: 5, Pattern: impl.Pattern{Owner: 4, Sub: 2}, Sort: 1, Action: impl.AcSend, To: impl.Site{Owner: 6, Sub: 7}},
			{Ext: 2, Prio: 6, Pattern: impl.Pattern{Owner: 4, Sub: 3}, Sort: 2, Action: impl.AcBlock},
		},
		Ops: []impl.Op{step(impl.OpRead, 2, 1), step(impl.OpAdd, 3, 2, 2), step(impl.OpSend, 3, 4)},
	}
}

// plain26 has no lists at all.
func plain26() impl.Package {
	return impl.Package{Ext: 1, Author: 1, Version: 1}
}

func withPack(change func(p *impl.Package)) impl.Package {
	p := pack26()
	change(&p)
	return p
}

// full26 has as much in each of its lists as there may be.
func full26() impl.Package {
	p := impl.Package{Ext: 5, Author: 9, Version: 999}
	for n := range 6 {
		p.Grants = append(p.Grants, impl.Grant{Ext: 5, Pattern: impl.Pattern{Owner: n, Sub: n - 1}, Kind: 1 + n%4, From: n, Until: 9995 + n})
		p.Flows = append(p.Flows, impl.Flow{Ext: 5, From: 1 + n, To: 9 - n})
		p.Rules = append(p.Rules, impl.Rule{Ext: 5, Prio: 9 - n, Pattern: impl.Pattern{Owner: n, Sub: n - 1}, Sort: n % 5, Action: impl.AcSend, To: impl.Site{Owner: 1 + n, Sub: n}})
	}
	for n := range 16 {
		p.Ops = append(p.Ops, step(impl.OpConst, n%6, 984+n))
	}
	return p
}

// notPackages has what is no package, each for one reason.
func notPackages() map[string]impl.Package {
	out := map[string]impl.Package{
		"zero":         {},
		"Ext 0":        withPack(func(p *impl.Package) { *p = plain26(); p.Ext = 0 }),
		"Ext 6":        withPack(func(p *impl.Package) { *p = plain26(); p.Ext = 6 }),
		"Author 0":     withPack(func(p *impl.Package) { p.Author = 0 }),
		"Author 10":    withPack(func(p *impl.Package) { p.Author = 10 }),
		"Version 0":    withPack(func(p *impl.Package) { p.Version = 0 }),
		"Version 1000": withPack(func(p *impl.Package) { p.Version = 1000 }),
		"another Ext":  withPack(func(p *impl.Package) { p.Ext = 3 }),
		"grant of 3":   withPack(func(p *impl.Package) { p.Grants[1].Ext = 3 }),
		"flow of 3":    withPack(func(p *impl.Package) { p.Flows[1].Ext = 3 }),
		"rule of 3":    withPack(func(p *impl.Package) { p.Rules[1].Ext = 3 }),
		"7 grants":     withPack(func(p *impl.Package) { p.Grants = slices.Repeat(p.Grants[:1], 7) }),
		"7 flows":      withPack(func(p *impl.Package) { p.Flows = slices.Repeat(p.Flows[:1], 7) }),
		"7 rules":      withPack(func(p *impl.Package) { p.Rules = slices.Repeat(p.Rules[:1], 7) }),
		"17 steps":     withPack(func(p *impl.Package) { p.Ops = slices.Repeat(p.Ops[:1], 17) }),
	}
	for i, g := range badGrants() {
		name := string(rune('a' + i))
		out["bad first grant "+name] = withPack(func(p *impl.Package) { p.Grants[0] = g })
		out["bad last grant "+name] = withPack(func(p *impl.Package) { p.Grants[1] = g })
	}
	for i, f := range badFlows {
		name := string(rune('a' + i))
		out["bad last flow "+name] = withPack(func(p *impl.Package) { p.Flows[1] = f })
	}
	for i, r := range badRules() {
		name := string(rune('a' + i))
		out["bad last rule "+name] = withPack(func(p *impl.Package) { p.Rules[1] = r })
	}
	for i, o := range badSteps {
		name := string(rune('a' + i))
		out["bad last step "+name] = withPack(func(p *impl.Package) { p.Ops[2] = o })
	}
	return out
}

// ints26 writes a package by other means.
func ints26(p impl.Package) []int {
	l := []int{p.Ext, p.Author, p.Version, len(p.Grants)}
	for _, g := range p.Grants {
		click := map[bool]int{true: 1}[g.Click]
		l = append(l, g.Pattern.Owner, g.Pattern.Sub, g.Kind, g.From, g.Until, click)
	}
	l = append(l, len(p.Flows))
	for _, f := range p.Flows {
		l = append(l, f.From, f.To)
	}
	l = append(l, len(p.Rules))
	for _, r := range p.Rules {
		l = append(l, r.Prio, r.Pattern.Owner, r.Pattern.Sub, r.Sort, r.Action, r.To.Owner, r.To.Sub)
	}
	l = append(l, len(p.Ops))
	for _, o := range p.Ops {
		l = append(l, o.Kind, o.A, o.B, o.C)
	}
	return l
}

// shorter26 returns packages that lack one or more of the lists of another one.
func shorter26(p impl.Package) []impl.Package {
	l := []impl.Package{}
	for n := range 16 {
		q := cloned(p)
		if n&1 != 0 {
			q.Grants = nil
		}
		if n&2 != 0 {
			q.Flows = []impl.Flow{}
		}
		if n&4 != 0 {
			q.Rules = nil
		}
		if n&8 != 0 {
			q.Ops = []impl.Op{}
		}
		l = append(l, q)
	}
	return l
}

func somePackages() []impl.Package {
	return slices.Concat(shorter26(pack26()), shorter26(full26()), []impl.Package{plain26()})
}

func TestIsPackage(t *testing.T) {
	around([][2]int{{1, 5}, {1, 9}, {1, 999}}, func(field int, x int, inside bool) {
		p := plain26()
		*[]*int{&p.Ext, &p.Author, &p.Version}[field] = x
		if got := impl.IsPackage(p); got != inside {
			t.Errorf("IsPackage(%+v) = %v", p, got)
		}
	})
	for _, p := range somePackages() {
		p.Seal = -7
		if !impl.IsPackage(p) {
			t.Errorf("%+v is no package", p)
		}
	}
	for why, p := range notPackages() {
		if impl.IsPackage(p) {
			t.Errorf("%s: %+v is a package", why, p)
		}
	}
	for n := range 9 {
		p := withPack(func(p *impl.Package) { p.Grants = slices.Repeat(p.Grants[:1], n) })
		q := withPack(func(p *impl.Package) { p.Flows = slices.Repeat(p.Flows[:1], n) })
		r := withPack(func(p *impl.Package) { p.Rules = slices.Repeat(p.Rules[:1], n) })
		o := withPack(func(p *impl.Package) { p.Ops = slices.Repeat(p.Ops[:1], n+10) })
		if impl.IsPackage(p) != (n <= 6) || impl.IsPackage(q) != (n <= 6) || impl.IsPackage(r) != (n <= 6) || impl.IsPackage(o) != (n <= 6) {
			t.Errorf("with lists of %d", n)
		}
	}
}

func TestPackageInts(t *testing.T) {
	for _, p := range somePackages() {
		p.Seal = 99
		if got := impl.PackageInts(p); !slices.Equal(got, ints26(p)) {
			t.Errorf("PackageInts(%+v) = %v", p, got)
		}
	}
	if got := impl.PackageInts(plain26()); !slices.Equal(got, []int{1, 1, 1, 0, 0, 0, 0}) {
		t.Errorf("without anything: %v", got)
	}
	// A package without a program ends with the number of its steps.
	p := withPack(func(p *impl.Package) { p.Ops = nil })
	if got := impl.PackageInts(p); got[len(got)-1] != 0 || len(got) != len(impl.PackageInts(pack26()))-12 {
		t.Errorf("without a program: %v", got)
	}
	for why, p := range notPackages() {
		if got := impl.PackageInts(p); len(got) != 0 {
			t.Errorf("%s: PackageInts(%+v) = %v", why, p, got)
		}
	}
}

func TestSealPackage(t *testing.T) {
	for _, key := range []int{1, 5, 77, 2147483646} {
		for _, p := range somePackages() {
			p.Seal = 44
			want := cloned(p)
			want.Seal = impl.KeyedHash(key, ints26(p))
			got := impl.SealPackage(key, p)
			if !alike(got, want) || !impl.IsSealed(key, got) || impl.IsSealed(key, p) {
				t.Errorf("SealPackage(%d, %+v) = %+v", key, p, got)
			}
			for _, other := range append([]int{1, 4, 5, 6, 77, 2147483646}, notKeys...) {
				if other != key && impl.IsSealed(other, got) {
					t.Errorf("%+v is sealed with %d, too", got, other)
				}
			}
		}
		for why, p := range notPackages() {
			p.Seal = 44
			want := cloned(p)
			want.Seal = 0
			got := impl.SealPackage(key, p)
			if !alike(got, want) || impl.IsSealed(key, got) {
				t.Errorf("%s: SealPackage(%d, %+v) = %+v", why, key, p, got)
			}
			for _, seal := range []int{impl.KeyedHash(key, nil), impl.KeyedHash(key, ints26(p))} {
				p.Seal = seal
				if impl.IsSealed(key, p) {
					t.Errorf("%s: %+v is sealed", why, p)
				}
			}
		}
	}
	for _, key := range notKeys {
		for _, p := range somePackages() {
			want := cloned(p)
			p.Seal = 44
			got := impl.SealPackage(key, p)
			if !alike(got, want) || impl.IsSealed(key, got) {
				t.Errorf("SealPackage(%d, %+v) = %+v", key, p, got)
			}
			if p.Seal = impl.KeyedHash(key, ints26(p)); impl.IsSealed(key, p) {
				t.Errorf("%+v is sealed with %d, which is no key", p, key)
			}
		}
	}
}

// TestAChangedPackageBreaksItsSeal changes one thing at a time in sealed packages.
func TestAChangedPackageBreaksItsSeal(t *testing.T) {
	changed, still := 0, 0
	for _, p := range somePackages() {
		for _, x := range variants(impl.SealPackage(5, p)) {
			if impl.IsSealed(5, x.value) {
				t.Errorf("%s: %+v is sealed", x.where, x.value)
			}
			changed++
			if impl.IsPackage(x.value) {
				still++
			}
		}
	}
	if changed < 2000 || still < 1000 {
		t.Errorf("%d changes, of which %d make packages", changed, still)
	}
}

// TestListsThatChangePlaces moves what is written from one list of a package to another one.
func TestListsThatChangePlaces(t *testing.T) {
	sealed := impl.SealPackage(5, pack26())
	for i, change := range []func(p *impl.Package){
		func(p *impl.Package) { p.Grants[0], p.Grants[1] = p.Grants[1], p.Grants[0] },
		func(p *impl.Package) { p.Flows[0], p.Flows[1] = p.Flows[1], p.Flows[0] },
		func(p *impl.Package) { p.Rules[0], p.Rules[1] = p.Rules[1], p.Rules[0] },
		func(p *impl.Package) { p.Ops[0], p.Ops[1] = p.Ops[1], p.Ops[0] },
		func(p *impl.Package) { p.Author, p.Version = p.Version, p.Author },
		func(p *impl.Package) { p.Flows[0].From, p.Flows[0].To = p.Flows[0].To, p.Flows[0].From },
	} {
		p := cloned(sealed)
		change(&p)
		if !impl.IsPackage(p) || impl.IsSealed(5, p) || impl.EqualPackages(p, sealed) {
			t.Errorf("%d: %+v", i, p)
		}
	}
}

func TestEqualPackages(t *testing.T) {
	for _, p := range []impl.Package{{}, plain26(), impl.SealPackage(5, pack26())} {
		checkEqualStructs(t, "EqualPackages", impl.EqualPackages, p)
	}
}

func TestPackagesKeepTheirArguments(t *testing.T) {
	for _, p := range append(somePackages(), impl.Package{}, withPack(func(p *impl.Package) { p.Version = 0 })) {
		for _, key := range []int{0, 5} {
			keeps(t, "SealPackage", impl.SealPackage, key, p)
			keeps(t, "IsSealed", impl.IsSealed, key, impl.SealPackage(key, p))
		}
		keeps(t, "IsPackage", impl.IsPackage, p)
		keeps(t, "PackageInts", impl.PackageInts, p)
		keeps(t, "EqualPackages", impl.EqualPackages, p, pack26())
	}
}
