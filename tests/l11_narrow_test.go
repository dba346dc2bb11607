package tests

import (
	"math"
	"testing"

	"loop.example/g03001/impl"
)

var everywhere = impl.Pattern{Sub: -1}

// badLimits has limits that are not valid, each for one reason; but for that they would apply to the extension 2 at site10.
func badLimits() []impl.Limit {
	l := []impl.Limit{
		{Ext: 6, Pattern: everywhere}, {Ext: -1, Pattern: everywhere}, {Ext: math.MaxInt, Pattern: everywhere},
		{Pattern: everywhere, Kind: 5}, {Pattern: everywhere, Kind: -1}, {Pattern: everywhere, Kind: math.MinInt},
	}
	for _, p := range notPatterns {
		l = append(l, impl.Limit{Pattern: p})
	}
	return l
}

func someLimits(roll func(n int) int, n int) []impl.Limit {
	l := []impl.Limit{}
	for range roll(n + 1) {
		x := impl.Limit{Ext: roll(4), Pattern: impl.Pattern{Owner: roll(3), Sub: roll(3) - 1}, Kind: roll(3)}
		if roll(5) == 0 {
			x = badLimits()[roll(len(badLimits()))]
		}
		l = append(l, x)
	}
	return l
}

func TestIsLimit(t *testing.T) {
	if impl.MaxLimits != 8 {
		t.Error(impl.MaxLimits)
	}
	around([][2]int{{0, 5}, {0, 9}, {-1, 9}, {0, 4}}, func(field int, x int, inside bool) {
		l := impl.Limit{Ext: 3, Pattern: impl.Pattern{Owner: 4, Sub: 4}, Kind: 2}
		*[]*int{&l.Ext, &l.Pattern.Owner, &l.Pattern.Sub, &l.Kind}[field] = x
		if got := impl.IsLimit(l); got != inside {
			t.Errorf("IsLimit(%+v) = %v", l, got)
		}
	})
	for _, x := range badLimits() {
		if impl.IsLimit(x) {
			t.Errorf("%+v is valid", x)
		}
	}
}

func TestIsDenied(t *testing.T) {
	at := impl.Pattern{Owner: 3, Sub: 4}
	for i, c := range []struct {
		x    impl.Limit
		want bool
	}{
		{impl.Limit{Pattern: everywhere}, true}, {impl.Limit{Ext: 2, Pattern: everywhere}, true}, {impl.Limit{Pattern: everywhere, Kind: 1}, true},
		{impl.Limit{Ext: 2, Pattern: at, Kind: 1}, true}, {impl.Limit{Pattern: impl.Pattern{Owner: 3, Sub: -1}}, true}, {impl.Limit{Pattern: impl.Pattern{Sub: 4}}, true},
		{impl.Limit{Ext: 1, Pattern: at}, false}, {impl.Limit{Ext: 3, Pattern: at, Kind: 1}, false},
		{impl.Limit{Pattern: at, Kind: 2}, false}, {impl.Limit{Ext: 2, Pattern: at, Kind: 4}, false},
		{impl.Limit{Pattern: impl.Pattern{Owner: 4, Sub: -1}}, false}, {impl.Limit{}, false}, {impl.Limit{Pattern: impl.Pattern{Owner: 3, Sub: 5}}, false},
	} {
		if got := impl.IsDenied([]impl.Limit{c.x}, 2, site10, impl.KdRead); got != c.want {
			t.Errorf("%d: %v", i, got)
		}
		l := []impl.Limit{{Ext: 1, Pattern: at}, {Pattern: at, Kind: 2}, c.x, {Ext: 6}}
		if got := impl.IsDenied(l, 2, site10, impl.KdRead); got != c.want {
			t.Errorf("%d, among others: %v", i, got)
		}
		if got := impl.IsDenied([]impl.Limit{{Ext: 1, Pattern: at}, c.x}, 2, site10, impl.KdRead); got != c.want {
			t.Errorf("%d, as the last one: %v", i, got)
		}
	}
	if impl.IsDenied(nil, 2, site10, 1) || impl.IsDenied([]impl.Limit{}, 2, site10, 1) {
		t.Error("nothing denies something")
	}
	for _, x := range badLimits() {
		for _, s := range []impl.Site{site10, impl.Site(x.Pattern)} {
			if impl.IsDenied([]impl.Limit{x}, 2, s, impl.KdRead) || impl.IsDenied([]impl.Limit{x}, x.Ext, s, x.Kind) {
				t.Errorf("%+v denies something", x)
			}
		}
	}
}

// TestLimitsForAllExtensions has limits with the Ext 0: they are for every number, a valid extension or not.
func TestLimitsForAllExtensions(t *testing.T) {
	all := []impl.Limit{{Pattern: everywhere}}
	for _, ext := range []int{1, 2, 3, 4, 5, 0, 6, -1, math.MinInt} {
		for kind := 1; kind <= 4; kind++ {
			for _, s := range allSites() {
				if !impl.IsDenied(all, ext, s, kind) {
					t.Fatalf("the extension %d is not denied %d at %v", ext, kind, s)
				}
			}
		}
		for _, s := range notSites {
			if impl.IsDenied(all, ext, s, 1) {
				t.Errorf("denied at %v, which is no site", s)
			}
		}
	}
	if got := impl.IsDenied([]impl.Limit{{Ext: 1, Pattern: everywhere}}, 0, site10, 1); got {
		t.Error("a limit for one extension is for the number 0")
	}
	if got := impl.IsDenied([]impl.Limit{{Pattern: everywhere, Kind: 1}}, 1, site10, 0); got {
		t.Error("a limit for one kind is for the number 0")
	}
}

// TestLimitsTakeAwayAndNeverAdd asks for everything with a part of the limits and with all of them.
func TestLimitsTakeAwayAndNeverAdd(t *testing.T) {
	roll := dice(11)
	for range 4000 {
		g, l := someGrants(roll, 6), someLimits(roll, 4)
		ext, s, kind, tick, clicked := roll(4), impl.Site{Owner: 1 + roll(2), Sub: roll(2)}, 1+roll(3), roll(8), roll(2) == 0
		denied := false
		for i, x := range l {
			applies := (x.Ext == 0 || x.Ext == ext) && (x.Kind == 0 || x.Kind == kind) && matches(x.Pattern, s)
			before := impl.MayDo(g, l[:i], ext, s, kind, tick, clicked)
			denied = denied || applies && impl.IsLimit(x)
			if got := impl.IsDenied(l[:i+1], ext, s, kind); got != denied {
				t.Fatalf("IsDenied(%+v, %d, %v, %d) = %v", l[:i+1], ext, s, kind, got)
			}
			after := impl.MayDo(g, l[:i+1], ext, s, kind, tick, clicked)
			if after && !before || after != (before && !denied) {
				t.Fatalf("%+v: the limit %+v makes %v of %v", g, x, after, before)
			}
		}
		if got := impl.MayDo(g, nil, ext, s, kind, tick, clicked); got != impl.IsAllowed(g, ext, s, kind, tick, clicked) {
			t.Fatalf("%+v: without limits %v", g, got)
		}
	}
	if impl.MayDo(nil, nil, 2, site10, 1, 5, true) {
		t.Error("something may be done without a grant")
	}
}

func TestNarrowGrant(t *testing.T) {
	for _, own := range allPatterns() {
		g := withGrant(func(g *impl.Grant) { g.Pattern, g.Click = own, true })
		for _, p := range allPatterns() {
			met, ok := impl.MeetPatterns(own, p)
			want := impl.Grant{}
			if ok {
				want = withGrant(func(g *impl.Grant) { g.Pattern, g.Click = met, true })
			}
			if got, gotOk := impl.NarrowGrant(g, p); got != want || gotOk != ok {
				t.Fatalf("NarrowGrant(%+v, %+v) = %+v, %v", g, p, got, gotOk)
			}
		}
	}
	for _, p := range notPatterns {
		if got, ok := impl.NarrowGrant(grant10, p); ok || got != (impl.Grant{}) {
			t.Errorf("to %+v: %+v, %v", p, got, ok)
		}
	}
	for _, g := range badGrants() {
		for _, p := range []impl.Pattern{everywhere, g.Pattern} {
			if got, ok := impl.NarrowGrant(g, p); ok || got != (impl.Grant{}) {
				t.Errorf("NarrowGrant(%+v, %+v) = %+v, %v", g, p, got, ok)
			}
		}
	}
}

func TestNarrowTime(t *testing.T) {
	for _, c := range []struct {
		from, until int
		want        [2]int
		ok          bool
	}{
		{5, 9, [2]int{5, 9}, true}, {4, 10, [2]int{5, 9}, true}, {6, 8, [2]int{6, 8}, true}, {7, 7, [2]int{7, 7}, true},
		{9, 9, [2]int{9, 9}, true}, {5, 5, [2]int{5, 5}, true}, {0, 5, [2]int{5, 5}, true}, {9, 20000, [2]int{9, 9}, true},
		{math.MinInt, math.MaxInt, [2]int{5, 9}, true}, {-7, 6, [2]int{5, 6}, true}, {6, math.MaxInt, [2]int{6, 9}, true},
		{10, 20, [2]int{}, false}, {0, 4, [2]int{}, false}, {8, 7, [2]int{}, false}, {9, 5, [2]int{}, false},
		{math.MaxInt, math.MinInt, [2]int{}, false}, {0, -1, [2]int{}, false}, {10, 9, [2]int{}, false},
	} {
		for _, click := range []bool{false, true} {
			g := withGrant(func(g *impl.Grant) { g.Click = click })
			want := impl.Grant{}
			if c.ok {
				want = withGrant(func(g *impl.Grant) { g.From, g.Until, g.Click = c.want[0], c.want[1], click })
			}
			if got, ok := impl.NarrowTime(g, c.from, c.until); got != want || ok != c.ok {
				t.Errorf("NarrowTime from %d to %d: %+v, %v", c.from, c.until, got, ok)
			}
		}
	}
	// The result would be valid, but the grant is not.
	for _, g := range badGrants() {
		for _, r := range [][2]int{{5, 9}, {0, 9}, {0, 10000}, {5, 5}} {
			if got, ok := impl.NarrowTime(g, r[0], r[1]); ok || got != (impl.Grant{}) {
				t.Errorf("NarrowTime(%+v, %v) = %+v, %v", g, r, got, ok)
			}
		}
	}
	g := withGrant(func(g *impl.Grant) { g.From, g.Until = 0, 10000 })
	if got, ok := impl.NarrowTime(g, 0, 10000); got != g || !ok {
		t.Errorf("the longest grant becomes %+v, %v", got, ok)
	}
}

// TestIsWithinGrants varies one thing at a time.
func TestIsWithinGrants(t *testing.T) {
	click := withGrant(func(g *impl.Grant) { g.Click = true })
	for i, c := range []struct {
		x, y impl.Grant
		want bool
	}{
		{grant10, grant10, true}, {click, click, true}, {click, grant10, true}, {grant10, click, false},
		{withGrant(func(g *impl.Grant) { g.From = 6 }), grant10, true}, {withGrant(func(g *impl.Grant) { g.From = 4 }), grant10, false},
		{withGrant(func(g *impl.Grant) { g.Until = 8 }), grant10, true}, {withGrant(func(g *impl.Grant) { g.Until = 10 }), grant10, false},
		{withGrant(func(g *impl.Grant) { g.Pattern.Sub = 4 }), grant10, true}, {withGrant(func(g *impl.Grant) { g.Pattern.Owner = 0 }), grant10, false},
		{grant10, withGrant(func(g *impl.Grant) { g.Pattern.Owner = 0 }), true}, {grant10, withGrant(func(g *impl.Grant) { g.Pattern.Sub = 4 }), false},
		{withGrant(func(g *impl.Grant) { g.Pattern.Owner = 4 }), grant10, false},
		{withGrant(func(g *impl.Grant) { g.Ext = 1 }), grant10, false}, {withGrant(func(g *impl.Grant) { g.Kind = 2 }), grant10, false},
		{grant10, withGrant(func(g *impl.Grant) { g.Ext = 3 }), false}, {grant10, withGrant(func(g *impl.Grant) { g.Kind = 4 }), false},
	} {
		if got := impl.IsWithinGrants([]impl.Grant{c.x}, []impl.Grant{c.y}); got != c.want {
			t.Errorf("%d: %+v within %+v: %v", i, c.x, c.y, got)
		}
		if got := impl.IsWithinGrants([]impl.Grant{grant10, c.x}, []impl.Grant{{}, c.y}); got != (c.want && impl.IsWithinGrants([]impl.Grant{grant10}, []impl.Grant{c.y})) {
			t.Errorf("%d: two grants: %v", i, got)
		}
	}
	wide := withGrant(func(g *impl.Grant) { g.Pattern, g.From, g.Until = everywhere, 0, 10000 })
	for _, g := range badGrants() {
		if impl.IsWithinGrants([]impl.Grant{g}, []impl.Grant{g, wide}) || impl.IsWithinGrants([]impl.Grant{grant10, g}, []impl.Grant{wide}) {
			t.Errorf("%+v is within something", g)
		}
		// Only Pattern, From and Until of a grant can be wider; such a one is not valid.
		if g.Ext == 2 && g.Kind == 1 && impl.IsWithinGrants([]impl.Grant{grant10}, []impl.Grant{g}) {
			t.Errorf("something is within %+v", g)
		}
	}
	if !impl.IsWithinGrants(nil, nil) || !impl.IsWithinGrants(nil, []impl.Grant{{}}) || impl.IsWithinGrants([]impl.Grant{grant10}, nil) {
		t.Error("nothing")
	}
	// Two grants together do not cover one.
	early, late := withGrant(func(g *impl.Grant) { g.Until = 7 }), withGrant(func(g *impl.Grant) { g.From = 7 })
	if impl.IsWithinGrants([]impl.Grant{grant10}, []impl.Grant{early, late}) || !impl.IsWithinGrants([]impl.Grant{late, early}, []impl.Grant{grant10}) {
		t.Error("two halves")
	}
}

// TestWhatIsWithinGrantsAllowsNoMore asks for everything that small grants could allow.
func TestWhatIsWithinGrantsAllowsNoMore(t *testing.T) {
	roll := dice(111)
	within := 0
	for range 20000 {
		a, b := someGrants(roll, 2), someGrants(roll, 5)
		if !impl.IsWithinGrants(a, b) || len(a) == 0 {
			continue
		}
		within++
		for n := range 3 * 6 * 2 * 8 * 2 {
			ext, s, kind, tick, clicked := 1+n%3, impl.Site{Owner: 1 + n/3%3, Sub: n / 9 % 2}, 1+n/18%2, n/36%8, n/288 == 1
			if impl.IsAllowed(a, ext, s, kind, tick, clicked) && !impl.IsAllowed(b, ext, s, kind, tick, clicked) {
				t.Fatalf("%+v allows more than %+v", a, b)
			}
		}
	}
	if within < 100 {
		t.Errorf("only %d lists are within others", within)
	}
}

func TestNarrowingKeepsItsArguments(t *testing.T) {
	g, checkGrants := guard(t, []impl.Grant{grant10, {}}, impl.Grant{Ext: 77})
	l, checkLimits := guard(t, []impl.Limit{{Ext: 1}, {Ext: 2, Pattern: everywhere, Kind: 3}}, impl.Limit{Ext: 77, Pattern: everywhere})
	// What lies behind the list is no part of it.
	if impl.IsDenied(l, 2, site10, 1) || !impl.MayDo(g, l, 2, site10, 1, 5, false) {
		t.Error("denied")
	}
	impl.IsWithinGrants(g, g)
	checkGrants("MayDo and IsWithinGrants")
	checkLimits("MayDo and IsDenied")
}
