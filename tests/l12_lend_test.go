package tests

import (
	"math"
	"slices"
	"testing"

	"loop.example/g03001/impl"
)

// lent12 says by other means what is lent.
func lent12(ext int, s impl.Site, tick int) []impl.Grant {
	read := impl.Grant{Ext: ext, Pattern: impl.Pattern{Owner: s.Owner, Sub: s.Sub}, Kind: impl.KdRead, From: tick, Until: tick + 5}
	write := read
	write.Kind = impl.KdWrite
	return []impl.Grant{read, write}
}

func TestLendGrants(t *testing.T) {
	if impl.MaxLend != 5 {
		t.Error(impl.MaxLend)
	}
	for ext := 1; ext <= 5; ext++ {
		for _, s := range allSites() {
			for _, tick := range []int{0, 1, 10, 9994, 9995} {
				got := impl.LendGrants(ext, s, tick)
				if !slices.Equal(got, lent12(ext, s, tick)) {
					t.Fatalf("LendGrants(%d, %v, %d) = %+v", ext, s, tick, got)
				}
				if !impl.IsGrant(got[0]) || !impl.IsLent(got[0]) || !impl.IsLent(got[1]) {
					t.Fatalf("%+v are not lent", got)
				}
			}
		}
	}
}

func TestLendGrantsRejects(t *testing.T) {
	around([][2]int{{1, 5}, {0, 9995}}, func(field int, x int, inside bool) {
		ext, tick := 2, 100
		*[]*int{&ext, &tick}[field] = x
		if got := impl.LendGrants(ext, site10, tick); len(got) == 2 != inside || len(got) == 0 == inside {
			t.Errorf("LendGrants(%d, %v, %d) = %+v", ext, site10, tick, got)
		}
		if got, ok := impl.LendTo([]impl.Grant{{Ext: 9}}, ext, site10, tick); ok != inside || len(got) == 1 == inside {
			t.Errorf("LendTo(%d, %v, %d) = %+v, %v", ext, site10, tick, got, ok)
		}
	})
	for _, s := range notSites {
		if got := impl.LendGrants(2, s, 100); len(got) != 0 {
			t.Errorf("at %v: %+v", s, got)
		}
		if got, ok := impl.LendTo([]impl.Grant{grant10}, 2, s, 100); ok || !slices.Equal(got, []impl.Grant{grant10}) {
			t.Errorf("at %v: %+v, %v", s, got, ok)
		}
	}
}

// TestLendingAtTheLastTicks follows what is lent until it expires, also where the ticks end.
func TestLendingAtTheLastTicks(t *testing.T) {
	for _, tick := range []int{0, 17, 9995} {
		l := impl.LendGrants(2, site10, tick)
		for now := tick - 2; now <= tick+8; now++ {
			want := tick <= now && now <= tick+5
			if got := impl.IsAllowed(l, 2, site10, impl.KdWrite, now, false); got != want {
				t.Errorf("lent at %d, asked at %d: %v", tick, now, got)
			}
			if got := len(impl.ExpireGrants(l, now)) == 2; got != (now <= tick+5) {
				t.Errorf("lent at %d, expired at %d: %v", tick, now, got)
			}
		}
	}
	for _, tick := range []int{9996, 9999, 10000, 10001, math.MaxInt, math.MaxInt - 5, math.MaxInt - 4} {
		if got := impl.LendGrants(2, site10, tick); len(got) != 0 {
			t.Errorf("at %d: %+v", tick, got)
		}
	}
}

// TestIsLent changes one thing at a time in a grant that is lent.
func TestIsLent(t *testing.T) {
	for _, base := range append(lent12(2, site10, 100), lent12(5, impl.Site{Owner: 9, Sub: 0}, 9995)...) {
		for i, c := range []struct {
			change func(g *impl.Grant)
			want   bool
		}{
			{func(g *impl.Grant) {}, true},
			{func(g *impl.Grant) { g.Ext = 1 }, true}, {func(g *impl.Grant) { g.Ext = 0 }, false}, {func(g *impl.Grant) { g.Ext = 6 }, false},
			{func(g *impl.Grant) { g.Pattern.Owner = 1 }, true}, {func(g *impl.Grant) { g.Pattern.Owner = 0 }, false}, {func(g *impl.Grant) { g.Pattern.Owner = 10 }, false},
			{func(g *impl.Grant) { g.Pattern.Sub = 9 }, true}, {func(g *impl.Grant) { g.Pattern.Sub = -1 }, false}, {func(g *impl.Grant) { g.Pattern.Sub = 10 }, false},
			{func(g *impl.Grant) { g.Pattern = everywhere }, false}, {func(g *impl.Grant) { g.Pattern.Sub = -2 }, false},
			{func(g *impl.Grant) { g.Kind = 1 }, true}, {func(g *impl.Grant) { g.Kind = 2 }, true}, {func(g *impl.Grant) { g.Kind = 3 }, false}, {func(g *impl.Grant) { g.Kind = 4 }, false}, {func(g *impl.Grant) { g.Kind = 0 }, false},
			{func(g *impl.Grant) { g.From-- }, false}, {func(g *impl.Grant) { g.From++ }, false}, {func(g *impl.Grant) { g.Until-- }, false}, {func(g *impl.Grant) { g.Until++ }, false},
			{func(g *impl.Grant) { g.From, g.Until = 0, 5 }, true}, {func(g *impl.Grant) { g.From, g.Until = -1, 4 }, false}, {func(g *impl.Grant) { g.From, g.Until = 9996, 10001 }, false},
			{func(g *impl.Grant) { g.From, g.Until = math.MaxInt-2, math.MinInt+2 }, false}, {func(g *impl.Grant) { g.Click = true }, false},
		} {
			g := base
			c.change(&g)
			if got := impl.IsLent(g); got != c.want {
				t.Errorf("%d: IsLent(%+v) = %v", i, g, got)
			}
		}
	}
	for _, g := range append(badGrants(), grant10) {
		if impl.IsLent(g) {
			t.Errorf("%+v is lent", g)
		}
	}
}

// TestWhatWasLentEndsWhenTheTabMovesOn lends at some sites, besides other grants, and ends it at one.
func TestWhatWasLentEndsWhenTheTabMovesOn(t *testing.T) {
	other := impl.Site{Owner: 3, Sub: 5}
	long := withGrant(func(g *impl.Grant) { g.Pattern, g.From, g.Until = impl.Pattern(site10), 100, 106 })
	click := lent12(2, site10, 100)[0]
	click.Click = true
	l := []impl.Grant{grant10, lent12(2, site10, 100)[1], long, lent12(2, other, 100)[0], click, lent12(1, site10, 101)[0], {Ext: 9}, lent12(5, site10, 0)[0], lent12(2, impl.Site{Owner: 4, Sub: 4}, 100)[0], lent12(2, site10, 100)[1]}
	for _, c := range []struct {
		s    impl.Site
		want []int
	}{
		{site10, []int{0, 2, 3, 4, 6, 8}}, {other, []int{0, 1, 2, 4, 5, 6, 7, 8, 9}}, {impl.Site{Owner: 4, Sub: 4}, []int{0, 1, 2, 3, 4, 5, 6, 7, 9}},
		{impl.Site{Owner: 3, Sub: 0}, []int{0, 1, 2, 3, 4, 5, 6, 7, 8, 9}}, {impl.Site{}, []int{0, 1, 2, 3, 4, 5, 6, 7, 8, 9}},
		{impl.Site{Owner: 3, Sub: -1}, []int{0, 1, 2, 3, 4, 5, 6, 7, 8, 9}}, {impl.Site{Owner: 0, Sub: 4}, []int{0, 1, 2, 3, 4, 5, 6, 7, 8, 9}},
	} {
		want := []impl.Grant{}
		for _, i := range c.want {
			want = append(want, l[i])
		}
		if got := impl.EndLending(l, c.s); !slices.Equal(got, want) {
			t.Errorf("EndLending at %v: %+v", c.s, got)
		}
	}
	if len(impl.EndLending(nil, site10)) != 0 || len(impl.EndLending(lent12(2, site10, 100), site10)) != 0 {
		t.Error("nothing is left")
	}
	for _, s := range allSites() {
		lent, ok := impl.LendTo([]impl.Grant{grant10}, 2, s, 100)
		if got := impl.EndLending(lent, s); !ok || len(lent) != 3 || !slices.Equal(got, []impl.Grant{grant10}) {
			t.Errorf("at %v: %+v", s, got)
		}
	}
}

func TestLendTo(t *testing.T) {
	lent := lent12(2, site10, 100)
	for i, c := range []struct{ l, want []impl.Grant }{
		{nil, lent}, {[]impl.Grant{grant10}, []impl.Grant{grant10, lent[0], lent[1]}},
		{[]impl.Grant{lent[0]}, lent}, {[]impl.Grant{lent[1]}, []impl.Grant{lent[1], lent[0]}}, {lent, lent},
		{[]impl.Grant{lent[1], grant10, lent[0]}, []impl.Grant{lent[1], grant10, lent[0]}},
		{lent12(2, site10, 99), append(lent12(2, site10, 99), lent...)}, {lent12(1, site10, 100), append(lent12(1, site10, 100), lent...)},
		{[]impl.Grant{{}, {Ext: 9}}, []impl.Grant{{}, {Ext: 9}, lent[0], lent[1]}},
	} {
		if got, ok := impl.LendTo(c.l, 2, site10, 100); !ok || !slices.Equal(got, c.want) {
			t.Errorf("%d: %+v, %v", i, got, ok)
		}
	}
}

// TestLendToUpToMaxGrants has lists of 13 to 18 grants with none, one or both of what is lent.
func TestLendToUpToMaxGrants(t *testing.T) {
	lent := lent12(2, site10, 100)
	for n := 13; n <= 18; n++ {
		for has := range 4 {
			l := []impl.Grant{}
			missing := []impl.Grant{}
			for i, g := range lent {
				if has>>i&1 == 1 {
					l = append(l, g)
				} else {
					missing = append(missing, g)
				}
			}
			for len(l) < n {
				l = append(l, withGrant(func(g *impl.Grant) { g.Until = 1000 + len(l) }))
			}
			want := n+len(missing) <= 16
			wanted := slices.Clone(l)
			if want {
				wanted = append(wanted, missing...)
			}
			if got, ok := impl.LendTo(l, 2, site10, 100); ok != want || !slices.Equal(got, wanted) {
				t.Errorf("%d grants, %d missing: %d grants, %v", n, len(missing), len(got), ok)
			}
		}
	}
}

func TestLendingKeepsItsArguments(t *testing.T) {
	for _, list := range [][]impl.Grant{lent12(2, site10, 100), {grant10, {}}, append(lent12(2, site10, 100), grant10), nil} {
		l, check := guard(t, list, impl.Grant{Ext: 77})
		for _, ext := range []int{1, 2, 9} {
			got, _ := impl.LendTo(l, ext, site10, 100)
			scribble(got, impl.Grant{Ext: -9})
			check("LendTo")
		}
		for _, s := range []impl.Site{site10, {}, {Owner: 1}} {
			scribble(impl.EndLending(l, s), impl.Grant{Ext: -9})
			check("EndLending")
		}
	}
}
