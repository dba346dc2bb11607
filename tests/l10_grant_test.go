package tests

import (
	"math"
	"slices"
	"testing"

	"loop.example/g03001/impl"
)

// grant10 is for the extension 2 to read the sites of the owner 3 from 5 to 9.
var grant10 = impl.Grant{Ext: 2, Pattern: impl.Pattern{Owner: 3, Sub: -1}, Kind: impl.KdRead, From: 5, Until: 9}

var site10 = impl.Site{Owner: 3, Sub: 4}

// withGrant returns grant10 with a change.
func withGrant(change func(g *impl.Grant)) impl.Grant {
	g := grant10
	change(&g)
	return g
}

// badGrants has grants that are not valid, each for one reason, for site10 at the tick 5 where that is possible.
func badGrants() []impl.Grant {
	l := []impl.Grant{
		{},
		withGrant(func(g *impl.Grant) { g.Ext = 0 }),
		withGrant(func(g *impl.Grant) { g.Ext = 6 }),
		withGrant(func(g *impl.Grant) { g.Ext = -1 }),
		withGrant(func(g *impl.Grant) { g.Kind = 0 }),
		withGrant(func(g *impl.Grant) { g.Kind = 5 }),
		withGrant(func(g *impl.Grant) { g.From = -1 }),
		withGrant(func(g *impl.Grant) { g.From = 10 }),
		withGrant(func(g *impl.Grant) { g.Until = 4 }),
		withGrant(func(g *impl.Grant) { g.Until = 10001 }),
		withGrant(func(g *impl.Grant) { g.From, g.Until = 10001, 10001 }),
		withGrant(func(g *impl.Grant) { g.From, g.Until = -2, -1 }),
	}
	for _, p := range notPatterns {
		l = append(l, withGrant(func(g *impl.Grant) { g.Pattern = p }))
	}
	return l
}

// someGrants returns lists of up to n grants, of which some are not valid and many are much alike.
func someGrants(roll func(n int) int, n int) []impl.Grant {
	l := []impl.Grant{}
	for range roll(n + 1) {
		g := impl.Grant{Ext: 1 + roll(3), Pattern: impl.Pattern{Owner: roll(3), Sub: roll(3) - 1}, Kind: 1 + roll(2), From: roll(4), Click: roll(3) == 0}
		g.Until = g.From + roll(4)
		if roll(9) == 0 {
			g = badGrants()[roll(len(badGrants()))]
		}
		l = append(l, g)
	}
	return l
}

func TestGrantConstants(t *testing.T) {
	got := []int{impl.KdRead, impl.KdWrite, impl.KdNet, impl.KdStore, impl.MaxTick, impl.MaxGrants}
	if !slices.Equal(got, []int{1, 2, 3, 4, 10000, 16}) {
		t.Error(got)
	}
}

func TestIsGrant(t *testing.T) {
	for _, click := range []bool{false, true} {
		around([][2]int{{1, 5}, {0, 9}, {-1, 9}, {1, 4}, {0, 50}, {50, 10000}}, func(field int, x int, inside bool) {
			g := impl.Grant{Ext: 3, Pattern: impl.Pattern{Owner: 4, Sub: 4}, Kind: 2, From: 50, Until: 50, Click: click}
			*[]*int{&g.Ext, &g.Pattern.Owner, &g.Pattern.Sub, &g.Kind, &g.From, &g.Until}[field] = x
			if got := impl.IsGrant(g); got != inside {
				t.Errorf("IsGrant(%+v) = %v", g, got)
			}
		})
	}
	for _, g := range badGrants() {
		if impl.IsGrant(g) {
			t.Errorf("%+v is valid", g)
		}
	}
	for _, r := range [][2]int{{0, 0}, {0, 10000}, {10000, 10000}} {
		if g := withGrant(func(g *impl.Grant) { g.From, g.Until = r[0], r[1] }); !impl.IsGrant(g) {
			t.Errorf("%+v is not valid", g)
		}
	}
}

// TestCovers varies one thing at a time.
func TestCovers(t *testing.T) {
	click := withGrant(func(g *impl.Grant) { g.Click = true })
	for i, c := range []struct {
		g       impl.Grant
		ext     int
		s       impl.Site
		kind    int
		tick    int
		clicked bool
		is      bool
	}{
		{g: grant10, ext: 2, s: site10, kind: 1, tick: 5, is: true}, {g: grant10, ext: 2, s: site10, kind: 1, tick: 9, is: true},
		{g: grant10, ext: 2, s: site10, kind: 1, tick: 7, clicked: true, is: true},
		{g: grant10, ext: 2, s: site10, kind: 1, tick: 4}, {g: grant10, ext: 2, s: site10, kind: 1, tick: 10},
		{g: grant10, ext: 2, s: site10, kind: 1, tick: math.MinInt}, {g: grant10, ext: 2, s: site10, kind: 1, tick: math.MaxInt},
		{g: grant10, ext: 1, s: site10, kind: 1, tick: 5}, {g: grant10, ext: 0, s: site10, kind: 1, tick: 5}, {g: grant10, ext: 3, s: site10, kind: 1, tick: 5},
		{g: grant10, ext: 2, s: site10, kind: 2, tick: 5}, {g: grant10, ext: 2, s: site10, kind: 0, tick: 5},
		{g: grant10, ext: 2, s: impl.Site{Owner: 4, Sub: 4}, kind: 1, tick: 5}, {g: grant10, ext: 2, s: impl.Site{Owner: 3, Sub: 10}, kind: 1, tick: 5},
		{g: grant10, ext: 2, s: impl.Site{}, kind: 1, tick: 5},
		{g: click, ext: 2, s: site10, kind: 1, tick: 5, clicked: true, is: true}, {g: click, ext: 2, s: site10, kind: 1, tick: 5},
	} {
		if got := impl.Covers(c.g, c.ext, c.s, c.kind, c.tick, c.clicked); got != c.is {
			t.Errorf("%d: Covers(%+v, %d, %v, %d, %d, %v) = %v", i, c.g, c.ext, c.s, c.kind, c.tick, c.clicked, got)
		}
	}
	for _, g := range badGrants() {
		for _, s := range []impl.Site{site10, impl.Site(g.Pattern)} {
			for _, tick := range []int{g.From, 5, g.Until} {
				if impl.Covers(g, g.Ext, s, g.Kind, tick, true) || impl.IsAllowed([]impl.Grant{g}, g.Ext, s, g.Kind, tick, true) {
					t.Errorf("%+v covers %v at %d", g, s, tick)
				}
			}
		}
	}
}

// TestGrantsOfOneTick goes along the ticks with grants whose From and Until are the same.
func TestGrantsOfOneTick(t *testing.T) {
	for _, at := range []int{0, 1, 7, 9999, 10000} {
		g := withGrant(func(g *impl.Grant) { g.From, g.Until = at, at })
		for tick := at - 2; tick <= at+2; tick++ {
			if got := impl.Covers(g, 2, site10, impl.KdRead, tick, false); got != (tick == at) {
				t.Errorf("the grant of %d covers %d: %v", at, tick, got)
			}
			if got := impl.ExpireGrants([]impl.Grant{g}, tick); len(got) == 1 != (tick <= at) {
				t.Errorf("the grant of %d at %d: %v", at, tick, got)
			}
		}
	}
}

// TestAGrantInForceCoversWhatIsAllowed asks lists of grants for everything that they could allow.
func TestAGrantInForceCoversWhatIsAllowed(t *testing.T) {
	roll := dice(10)
	for range 3000 {
		l := someGrants(roll, 6)
		ext, s, kind, tick, clicked := roll(5), impl.Site{Owner: 1 + roll(2), Sub: roll(2)}, 1+roll(3), roll(8), roll(2) == 0
		want := false
		for _, g := range l {
			in := g.Ext == ext && matches(g.Pattern, s) && g.Kind == kind && g.From <= tick && tick <= g.Until
			want = want || impl.IsGrant(g) && in && (clicked || !g.Click)
		}
		if got := impl.IsAllowed(l, ext, s, kind, tick, clicked); got != want {
			t.Fatalf("IsAllowed(%+v, %d, %v, %d, %d, %v) = %v", l, ext, s, kind, tick, clicked, got)
		}
		left := impl.ExpireGrants(l, tick)
		if impl.IsAllowed(left, ext, s, kind, tick, clicked) != want {
			t.Fatalf("%+v: what expires at %d was in force", l, tick)
		}
	}
	if impl.IsAllowed(nil, 2, site10, 1, 5, true) || impl.IsAllowed([]impl.Grant{}, 2, site10, 1, 5, true) {
		t.Error("nothing allows something")
	}
}

func TestExpireGrants(t *testing.T) {
	until := func(n int) impl.Grant { return withGrant(func(g *impl.Grant) { g.From, g.Until = 0, n }) }
	l := append([]impl.Grant{until(9), until(3), until(10000), until(3), until(0)}, badGrants()...)
	for _, c := range []struct {
		tick int
		want []impl.Grant
	}{
		{math.MinInt, l[:5]}, {-1, l[:5]}, {0, l[:5]}, {1, l[:4]}, {3, l[:4]}, {4, []impl.Grant{l[0], l[2]}}, {9, []impl.Grant{l[0], l[2]}},
		{10, l[2:3]}, {10000, l[2:3]}, {10001, nil}, {math.MaxInt, nil},
	} {
		if got := impl.ExpireGrants(l, c.tick); !slices.Equal(got, c.want) {
			t.Errorf("at %d: %+v", c.tick, got)
		}
	}
	if got := impl.ExpireGrants([]impl.Grant{grant10}, 1); len(got) != 1 {
		t.Error("a grant expires before it begins")
	}
	if len(impl.ExpireGrants(nil, 0)) != 0 {
		t.Error("nothing becomes something")
	}
}

func TestGrantsOf(t *testing.T) {
	l := append([]impl.Grant{grant10, {Ext: 1}, {Ext: 2, Kind: 9}, {Ext: 3}, grant10}, badGrants()...)
	checkPicked(t, "GrantsOf", impl.GrantsOf, l, func(g impl.Grant, ext int) bool { return g.Ext == ext })
}

func TestAddGrant(t *testing.T) {
	l := []impl.Grant{}
	for i := range 20 {
		got, ok := impl.AddGrant(l, withGrant(func(g *impl.Grant) { g.Until = 100 + i }))
		want := slices.Clone(l)
		if i < 16 {
			want = append(want, withGrant(func(g *impl.Grant) { g.Until = 100 + i }))
		}
		if ok != (i < 16) || !slices.Equal(got, want) {
			t.Fatalf("the grant %d: %+v, %v", i, got, ok)
		}
		l = got
	}
	over := append(slices.Clone(l), grant10)
	if got, ok := impl.AddGrant(over, withGrant(func(g *impl.Grant) { g.Ext = 3 })); ok || !slices.Equal(got, over) {
		t.Errorf("to 17 grants: %+v, %v", got, ok)
	}
	for _, g := range badGrants() {
		if got, ok := impl.AddGrant(l[:2], g); ok || !slices.Equal(got, l[:2]) {
			t.Errorf("%+v: %+v, %v", g, got, ok)
		}
	}
	for i, g := range l[:15] {
		if got, ok := impl.AddGrant(l[:15], g); ok || !slices.Equal(got, l[:15]) {
			t.Errorf("the grant %d again: %+v, %v", i, got, ok)
		}
	}
}

// TestAddGrantThatDiffersInOneField adds to a list a grant that is almost there.
func TestAddGrantThatDiffersInOneField(t *testing.T) {
	l := []impl.Grant{{Ext: 9}, grant10}
	for i, change := range []func(g *impl.Grant){
		func(g *impl.Grant) { g.Ext = 1 },
		func(g *impl.Grant) { g.Pattern.Owner = 0 },
		func(g *impl.Grant) { g.Pattern.Sub = 4 },
		func(g *impl.Grant) { g.Kind = 2 },
		func(g *impl.Grant) { g.From = 6 },
		func(g *impl.Grant) { g.Until = 8 },
		func(g *impl.Grant) { g.Click = true },
	} {
		g := withGrant(change)
		if got, ok := impl.AddGrant(l, g); !ok || !slices.Equal(got, append(slices.Clone(l), g)) {
			t.Errorf("%d: %+v, %v", i, got, ok)
		}
	}
}

func TestGrantsKeepTheirArguments(t *testing.T) {
	l, check := guard(t, []impl.Grant{grant10, {}, withGrant(func(g *impl.Grant) { g.Until = 20 })}, impl.Grant{Ext: 77})
	for _, g := range []impl.Grant{grant10, {}, withGrant(func(g *impl.Grant) { g.Ext = 1 })} {
		got, _ := impl.AddGrant(l, g)
		scribble(got, impl.Grant{Ext: -9})
		check("AddGrant")
	}
	scribble(impl.ExpireGrants(l, 0), impl.Grant{Ext: -9})
	check("ExpireGrants")
	impl.IsAllowed(l, 2, site10, 1, 5, true)
	check("IsAllowed")
}
