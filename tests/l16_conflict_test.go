package tests

import (
	"math"
	"slices"
	"testing"

	"loop.example/g03001/impl"
)

// every calls try with each of the 360 requests.
func every(try func(q impl.Request)) {
	for _, s := range allSites() {
		for sort := 1; sort <= 4; sort++ {
			try(impl.Request{Site: s, Sort: sort})
		}
	}
}

// shadowed16 says by the requests that rules apply to whether the rule i is shadowed by another one.
func shadowed16(l []impl.Rule, i int) bool {
	under := l[i]
	return impl.IsRule(under) && slices.ContainsFunc(l, func(r impl.Rule) bool {
		all := impl.IsRule(r) && slices.Compare(weight(r), weight(under)) < 0
		every(func(q impl.Request) { all = all && (applies(r, q) || !applies(under, q)) })
		return all
	})
}

// TestAShadowedRuleNeverDecides compares many lists with all requests there are.
func TestAShadowedRuleNeverDecides(t *testing.T) {
	roll := dice(16)
	shadows := 0
	for range 150 {
		l := someRules(roll, 12)
		chosen := make([]bool, len(l))
		every(func(q impl.Request) {
			if i := decides(l, q); i >= 0 {
				chosen[i] = true
			}
		})
		shadowed, never := []int{}, []int{}
		for i, r := range l {
			if shadowed16(l, i) {
				shadowed = append(shadowed, i)
			}
			if impl.IsRule(r) && !chosen[i] {
				never = append(never, i)
			}
			if got := impl.IsShadowed(l, i); got != shadowed16(l, i) {
				t.Fatalf("IsShadowed(%+v, %d) = %v", l, i, got)
			}
			if impl.IsShadowed(l, i) && chosen[i] {
				t.Fatalf("%+v: the rule %d is shadowed and decides", l, i)
			}
		}
		if got := impl.ShadowedRules(l); !slices.Equal(got, shadowed) {
			t.Fatalf("ShadowedRules(%+v) = %v, want %v", l, got, shadowed)
		}
		if got := impl.NeverChosen(l); !slices.Equal(got, never) {
			t.Fatalf("NeverChosen(%+v) = %v, want %v", l, got, never)
		}
		shadows += len(shadowed)
	}
	if shadows < 50 {
		t.Errorf("only %d rules are shadowed", shadows)
	}
}

// TestIsShadowed has for each pair whether the first one shadows the second one.
func TestIsShadowed(t *testing.T) {
	high := func(change func(r *impl.Rule)) impl.Rule {
		return withRule(func(r *impl.Rule) { r.Prio = 6; change(r) })
	}
	for i, c := range []struct {
		r, under impl.Rule
		want     bool
	}{
		{high(func(r *impl.Rule) {}), rule13, true},
		{high(func(r *impl.Rule) { r.Pattern = everywhere }), rule13, true},
		{high(func(r *impl.Rule) { r.Sort = 0 }), rule13, true},
		{high(func(r *impl.Rule) { r.Sort = 4 }), rule13, false},
		{high(func(r *impl.Rule) {}), withRule(func(r *impl.Rule) { r.Sort = 0 }), false},
		{high(func(r *impl.Rule) { r.Sort = 0 }), withRule(func(r *impl.Rule) { r.Sort = 0 }), true},
		{high(func(r *impl.Rule) { r.Pattern.Sub = 4 }), rule13, false},
		{high(func(r *impl.Rule) { r.Pattern.Owner = 5 }), rule13, false},
		{high(func(r *impl.Rule) { r.Prio = 4 }), rule13, false},
		{high(func(r *impl.Rule) { r.Prio = 10 }), rule13, false},
		{high(func(r *impl.Rule) { r.Ext = 6 }), rule13, false},
		{rule13, rule13, false},
		{withRule(func(r *impl.Rule) { r.Pattern = everywhere }), rule13, false},
		{withRule(func(r *impl.Rule) { r.Ext = 1 }), rule13, true},
		{withRule(func(r *impl.Rule) { r.Action = impl.AcAllow; r.Ext = 5 }), rule13, true},
		{sendTo(2, 0), sendTo(2, 1), true}, {sendTo(2, 1), sendTo(2, 0), false},
		{rule13, withRule(func(r *impl.Rule) { r.Prio = 0 }), false},
		{rule13, withRule(func(r *impl.Rule) { r.Prio = 1; r.Ext = 0 }), false},
	} {
		for _, l := range [][]impl.Rule{{c.r, c.under}, {c.r, {}, c.under}} {
			last := len(l) - 1
			if got := impl.IsShadowed(l, last); got != c.want {
				t.Errorf("%d: IsShadowed(%+v, %d) = %v", i, l, last, got)
			}
			back := slices.Clone(l)
			slices.Reverse(back)
			if got := impl.IsShadowed(back, 0); got != c.want {
				t.Errorf("%d: IsShadowed(%+v, 0) = %v", i, back, got)
			}
		}
	}
	l := []impl.Rule{rule13, withRule(func(r *impl.Rule) { r.Prio = 1 })}
	for _, i := range []int{-1, 2, 3, math.MinInt, math.MaxInt} {
		if impl.IsShadowed(l, i) || impl.IsShadowed(nil, i) {
			t.Errorf("there is no rule %d, and it is shadowed", i)
		}
	}
	if len(impl.ShadowedRules(nil)) != 0 || len(impl.NeverChosen(nil)) != 0 || impl.IsShadowed(nil, 0) {
		t.Error("rules of nothing")
	}
}

// TestRulesThatCouldShadowEachOther has rules for the same requests: never two of them shadow each other.
func TestRulesThatCouldShadowEachOther(t *testing.T) {
	l := []impl.Rule{}
	for n := range 24 {
		l = append(l, withRule(func(r *impl.Rule) { r.Prio, r.Ext, r.Action = 1+n%2, 1+n/2%3, 1+n/6%2 }))
	}
	for _, a := range l {
		for _, b := range l {
			pair := []impl.Rule{a, b}
			if impl.IsShadowed(pair, 0) && impl.IsShadowed(pair, 1) {
				t.Errorf("%+v and %+v shadow each other", a, b)
			}
			if a == b && (len(impl.ShadowedRules(pair)) != 0 || !slices.Equal(impl.NeverChosen(pair), []int{1})) {
				t.Errorf("%+v twice: %v are shadowed, %v are never chosen", a, impl.ShadowedRules(pair), impl.NeverChosen(pair))
			}
			if a != b && len(impl.ShadowedRules(pair)) != 1 {
				t.Errorf("%+v and %+v: %v are shadowed", a, b, impl.ShadowedRules(pair))
			}
		}
	}
}

// TestNeverChosenAtTheEdges has a rule for one site and sort only, under one for all others.
func TestNeverChosenAtTheEdges(t *testing.T) {
	for _, s := range []impl.Site{{Owner: 1}, {Owner: 9, Sub: 9}, {Owner: 1, Sub: 9}, {Owner: 9}, {Owner: 5, Sub: 5}} {
		for sort := 1; sort <= 4; sort++ {
			only := withRule(func(r *impl.Rule) { r.Prio, r.Pattern, r.Sort = 1, impl.Pattern(s), sort })
			if got := impl.NeverChosen([]impl.Rule{only, {}}); len(got) != 0 {
				t.Errorf("%+v alone: %v are never chosen", only, got)
			}
			l := []impl.Rule{only}
			for other := 1; other <= 4; other++ {
				if other != sort {
					l = append(l, withRule(func(r *impl.Rule) { r.Pattern, r.Sort = everywhere, other }))
				}
			}
			if got := impl.NeverChosen(l); len(got) != 0 {
				t.Errorf("%+v under other sorts: %v are never chosen", only, got)
			}
			l = append(l, withRule(func(r *impl.Rule) { r.Pattern, r.Sort = everywhere, sort }))
			if got := impl.NeverChosen(l); !slices.Equal(got, []int{0}) {
				t.Errorf("%+v under all sorts: %v are never chosen", only, got)
			}
		}
	}
}

func TestClashes(t *testing.T) {
	roll := dice(160)
	for range 300 {
		l := someRules(roll, 8)
		counts := map[int]int{}
		every(func(q impl.Request) {
			want := false
			for i, a := range l {
				for _, b := range l[:i] {
					want = want || applies(a, q) && applies(b, q) && a.Ext != b.Ext && a.Action != b.Action
				}
			}
			if want {
				counts[q.Site.Owner]++
			}
			if got := impl.ClashOf(l, q); got != want {
				t.Fatalf("ClashOf(%+v, %+v) = %v", l, q, got)
			}
		})
		for owner := -1; owner <= 11; owner++ {
			if got := impl.ClashCount(l, owner); got != counts[owner] {
				t.Fatalf("ClashCount(%+v, %d) = %d, want %d", l, owner, got, counts[owner])
			}
		}
	}
}

func TestClashOf(t *testing.T) {
	q := impl.Request{Site: impl.Site{Owner: 4, Sub: 4}, Sort: 3}
	for i, c := range []struct {
		l    []impl.Rule
		want bool
	}{
		{nil, false}, {[]impl.Rule{rule13}, false}, {[]impl.Rule{rule13, rule13}, false},
		{[]impl.Rule{rule13, withRule(func(r *impl.Rule) { r.Ext = 3 })}, false},
		{[]impl.Rule{rule13, withRule(func(r *impl.Rule) { r.Action = 1 })}, false},
		{[]impl.Rule{rule13, withRule(func(r *impl.Rule) { r.Ext, r.Action = 3, 1 })}, true},
		{[]impl.Rule{rule13, withRule(func(r *impl.Rule) { r.Ext, r.Action, r.Prio = 3, 1, 1 })}, true},
		{[]impl.Rule{rule13, withRule(func(r *impl.Rule) { r.Ext, r.Action, r.Sort = 3, 1, 1 })}, false},
		{[]impl.Rule{rule13, withRule(func(r *impl.Rule) { r.Ext, r.Action = 6, 1 })}, false},
		{[]impl.Rule{rule13, {}, withRule(func(r *impl.Rule) { r.Ext = 3 }), sendTo(1, 1), withRule(func(r *impl.Rule) { r.Ext = 4 })}, true},
	} {
		if got := impl.ClashOf(c.l, q); got != c.want {
			t.Errorf("%d: ClashOf gives %v", i, got)
		}
	}
	all := []impl.Rule{withRule(func(r *impl.Rule) { r.Pattern, r.Sort = everywhere, 0 }), withRule(func(r *impl.Rule) { r.Ext, r.Action, r.Pattern, r.Sort = 1, 1, everywhere, 0 })}
	for _, q := range requests()[:6] {
		if impl.ClashOf(all, q) {
			t.Errorf("a clash at %+v, which is no request", q)
		}
	}
	for _, owner := range []int{math.MinInt, -1, 0, 10, math.MaxInt} {
		if got := impl.ClashCount(all, owner); got != 0 {
			t.Errorf("ClashCount of %d: %d", owner, got)
		}
	}
	for owner := 1; owner <= 9; owner++ {
		if got := impl.ClashCount(all, owner); got != 40 {
			t.Errorf("ClashCount of %d: %d", owner, got)
		}
	}
}

func TestConflictsKeepTheirArguments(t *testing.T) {
	l, check := guard(t, []impl.Rule{sendTo(2, 0), sendTo(1, 0), {}, rule13}, withRule(func(r *impl.Rule) { r.Prio, r.Pattern, r.Sort = 9, everywhere, 0 }))
	impl.IsShadowed(l, 0)
	// What lies behind the list is no part of it.
	if got := impl.ShadowedRules(l); !slices.Equal(got, []int{0, 1}) {
		t.Errorf("%v are shadowed", got)
	}
	impl.NeverChosen(l)
	impl.ClashOf(l, impl.Request{Site: impl.Site{Owner: 4}, Sort: 3})
	impl.ClashCount(l, 4)
	check("the conflicts")
}
