package tests

import (
	"math"
	"slices"
	"testing"

	"loop.example/g03001/impl"
)

// values34 says by other means which values an extension gets.
func values34(b impl.Browser, ext int, values []int) []int {
	l := make([]int, 9)
	for i := range l {
		if i < len(values) && values[i] >= 0 && values[i] <= 999 && may33(b, ext, impl.Site{Owner: i + 1}, impl.KdRead, false) {
			l[i] = values[i]
		}
	}
	return l
}

// sent34 says by other means what the first package of an extension sends.
func sent34(b impl.Browser, ext int, values []int) []impl.Sent {
	l := []impl.Sent{}
	for _, p := range b.Packs {
		if p.Ext != ext {
			continue
		}
		if !impl.AreOps(p.Ops) {
			break
		}
		all, _ := trace21(p.Ops, values34(b, ext, values))
		for _, s := range all {
			if mayFlow(p.Flows, ext, s.Label, s.To) && may33(b, ext, impl.Site{Owner: s.To}, impl.KdNet, false) {
				l = append(l, s)
			}
		}
		break
	}
	return l
}

// inForce34 says by other means which rules are in force at a site.
func inForce34(b impl.Browser, s impl.Site) []impl.Rule {
	return slices.DeleteFunc(slices.Clone(b.Rules), func(r impl.Rule) bool {
		return slices.ContainsFunc(b.Limits, func(x impl.Limit) bool {
			return impl.IsLimit(x) && impl.IsSite(s) && (x.Ext == 0 || x.Ext == r.Ext) && (x.Kind == 0 || x.Kind == impl.KdNet) && matches(x.Pattern, s)
		})
	})
}

// TestOnlyDeclaredValuesLeave asks and sends in many browsers.
func TestOnlyDeclaredValuesLeave(t *testing.T) {
	roll := dice(34)
	sentSome, codes := 0, [5]int{}
	for range 4000 {
		b := someBrowser(roll)
		b.Rules = append(b.Rules, someRules(roll, 3)...)
		values := []int{}
		for range roll(11) {
			values = append(values, []int{roll(1000), roll(1000), 999, 1000, -1}[roll(5)])
		}
		all := []impl.Sent{}
		for ext := range 6 {
			if got := impl.ValuesFor(b, ext, values); !slices.Equal(got, values34(b, ext, values)) {
				t.Fatalf("ValuesFor(%+v, %d, %v) = %v", b, ext, values, got)
			}
			got := impl.SentFrom(b, ext, values)
			if !slices.Equal(got, sent34(b, ext, values)) {
				t.Fatalf("SentFrom(%+v, %d, %v) = %+v", b, ext, values, got)
			}
			all = append(all, got...)
			for _, s := range got {
				owners, _ := owners19(s.Label)
				for _, o := range owners {
					if o != s.To && !slices.Contains(b.Packs[impl.PackOf(b, ext)].Flows, impl.Flow{Ext: ext, From: o, To: s.To}) {
						t.Fatalf("%+v leaves, which %d has not declared, from %+v", s, ext, b)
					}
				}
				sentSome++
			}
		}
		if got := impl.Leaving(b, values); !slices.Equal(got, all) {
			t.Fatalf("Leaving(%+v, %v) = %+v, want %+v", b, values, got, all)
		}
		q := requests()[roll(len(requests()))]
		want := follows(inForce34(b, q.Site), q)
		if got := impl.AskPage(b, q); !sameOutcome(got, want) {
			t.Fatalf("AskPage(%+v, %+v) = %+v, want %+v", b, q, got, want)
		}
		codes[want.Code]++
		if got := impl.RulesInForce(b, q.Site); !slices.Equal(got, inForce34(b, q.Site)) {
			t.Fatalf("RulesInForce(%+v, %+v) = %+v", b, q.Site, got)
		}
	}
	if sentSome < 500 || codes[1] < 100 || codes[2] < 100 || codes[3] < 10 {
		t.Error(sentSome, codes)
	}
}

func TestValuesFor(t *testing.T) {
	values := []int{10, 20, 30, 40, 50, 60, 70, 80, 90, 100}
	site := impl.Pattern{Owner: 3, Sub: 0}
	for i, c := range []struct {
		grants []impl.Grant
		limits []impl.Limit
		now    int
		want   []int
	}{
		{all33(), nil, 5, values[:9]},
		{nil, nil, 5, nil},
		{[]impl.Grant{grantFor(1, impl.KdRead, 3, 0), grantFor(1, impl.KdRead, 5, -1)}, nil, 5, []int{0, 0, 30, 0, 50}},
		{[]impl.Grant{grantFor(1, impl.KdRead, 3, 1)}, nil, 5, nil},
		{[]impl.Grant{grantFor(1, impl.KdWrite, 3, 0)}, nil, 5, nil},
		{[]impl.Grant{grantFor(2, impl.KdRead, 3, 0)}, nil, 5, nil},
		{[]impl.Grant{grantFor(1, impl.KdRead, 3, 0)}, nil, 40, []int{0, 0, 30}},
		{[]impl.Grant{grantFor(1, impl.KdRead, 3, 0)}, nil, 41, nil},
		{[]impl.Grant{{Ext: 1, Pattern: site, Kind: impl.KdRead, Until: 40, Click: true}}, nil, 5, nil},
		{all33(), []impl.Limit{{Pattern: site}}, 5, []int{10, 20, 0, 40, 50, 60, 70, 80, 90}},
		{all33(), []impl.Limit{{Ext: 1, Pattern: impl.Pattern{Owner: 3, Sub: 1}}}, 5, values[:9]},
		{all33(), []impl.Limit{{Ext: 2, Pattern: site}, {Pattern: site, Kind: impl.KdNet}}, 5, values[:9]},
	} {
		b := impl.Browser{Grants: c.grants, Limits: c.limits, Now: c.now}
		want := append(slices.Clone(c.want), make([]int, 9)...)[:9]
		if got := impl.ValuesFor(b, 1, values); !slices.Equal(got, want) {
			t.Errorf("%d: %v, want %v", i, got, want)
		}
		if got := impl.ValuesFor(b, 1, nil); !slices.Equal(got, make([]int, 9)) {
			t.Errorf("%d: of no values %v", i, got)
		}
	}
	b := act33(all33()...)
	if got := impl.ValuesFor(b, 1, []int{-1, 0, 999, 1000, math.MinInt, math.MaxInt, 7}); !slices.Equal(got, []int{0, 0, 999, 0, 0, 0, 7, 0, 0}) {
		t.Errorf("beyond the range: %v", got)
	}
	// A click in a tab does not count, and neither does it matter whether there is a package.
	b.Tabs[0].Click, b.Packs = 5, nil
	if got := impl.ValuesFor(b, 1, values); !slices.Equal(got, values[:9]) {
		t.Errorf("without a package: %v", got)
	}
	for _, ext := range []int{-1, 0, 2, 6, math.MaxInt} {
		if got := impl.ValuesFor(b, ext, values); !slices.Equal(got, make([]int, 9)) {
			t.Errorf("for %d: %v", ext, got)
		}
	}
}

// TestSentFrom uses fine27, which adds 1 and 3 and sends the sum to 2.
func TestSentFrom(t *testing.T) {
	two := impl.Pattern{Owner: 2, Sub: 0}
	for i, c := range []struct {
		change func(b *impl.Browser)
		want   []impl.Sent
	}{
		{func(*impl.Browser) {}, sent(2, 16, 10)},
		{func(b *impl.Browser) { b.Grants = slices.Delete(b.Grants, 0, 1) }, sent(2, 0, 10)},
		{func(b *impl.Browser) { b.Grants[0].Pattern.Owner = 3 }, sent(2, 9, 10)},
		{func(b *impl.Browser) { b.Grants = slices.Delete(b.Grants, 2, 3) }, nil},
		{func(b *impl.Browser) { b.Grants[2].Pattern = two }, sent(2, 16, 10)},
		{func(b *impl.Browser) { b.Grants[2].Pattern.Sub = 1 }, nil},
		{func(b *impl.Browser) { b.Grants[2].Pattern.Owner = 1 }, nil},
		{func(b *impl.Browser) { b.Grants[2].Click, b.Tabs[0].Click = true, 5 }, nil},
		{func(b *impl.Browser) { b.Limits = []impl.Limit{{Pattern: two, Kind: impl.KdNet}} }, nil},
		{func(b *impl.Browser) { b.Limits = []impl.Limit{{Pattern: impl.Pattern{Owner: 2, Sub: 1}}} }, sent(2, 16, 10)},
		{func(b *impl.Browser) { b.Limits = []impl.Limit{{Pattern: two, Kind: impl.KdRead}} }, sent(2, 16, 10)},
		{func(b *impl.Browser) { b.Limits = []impl.Limit{{Ext: 1, Pattern: impl.Pattern{Owner: 1, Sub: -1}}} }, sent(2, 9, 10)},
		{func(b *impl.Browser) { b.Now = 41 }, nil},
		{func(b *impl.Browser) { b.Packs = nil }, nil},
		{func(b *impl.Browser) { b.Packs[0].Flows = b.Packs[0].Flows[1:] }, nil},
		{func(b *impl.Browser) { b.Packs[0].Ops = append(b.Packs[0].Ops, impl.Op{}) }, nil},
		// The program of another package is not this one's, and neither are its flows; of two the first one counts.
		{func(b *impl.Browser) { b.Packs[0].Ext = 2 }, nil},
		{func(b *impl.Browser) { b.Packs = append(b.Packs, impl.Package{Ext: 1}) }, sent(2, 16, 10)},
		{func(b *impl.Browser) { b.Packs = slices.Insert(b.Packs, 0, impl.Package{Ext: 1}) }, nil},
	} {
		b := act33(all33()...)
		c.change(&b)
		if got := impl.SentFrom(b, 1, []int{7, 8, 9}); !slices.Equal(got, c.want) {
			t.Errorf("%d: SentFrom(%+v) = %+v, want %+v", i, b, got, c.want)
		}
	}
	for _, ext := range []int{math.MinInt, -1, 0, 2, 6} {
		if got := impl.SentFrom(act33(all33()...), ext, []int{7}); len(got) != 0 {
			t.Errorf("from %d: %+v", ext, got)
		}
	}
}

func TestLeaving(t *testing.T) {
	b := act33(all33()...)
	other := cloned(b.Packs[0])
	other.Ext = 2
	for i := range other.Flows {
		other.Flows[i].Ext = 2
	}
	other.Ops = []impl.Op{step(impl.OpConst, 0, 4), step(impl.OpSend, 0, 9)}
	b.Packs = append(b.Packs, other, impl.Package{Ext: 3})
	b.Grants = append(b.Grants, grantFor(2, impl.KdNet, 0, -1))
	if got := impl.Leaving(b, []int{7, 8, 9}); !slices.Equal(got, sent(2, 16, 10, 9, 4, 0)) {
		t.Errorf("%+v", got)
	}
	slices.Reverse(b.Packs)
	if got := impl.Leaving(b, []int{7, 8, 9}); !slices.Equal(got, sent(9, 4, 0, 2, 16, 10)) {
		t.Errorf("the other way round: %+v", got)
	}
	if got := impl.Leaving(impl.Browser{}, []int{7}); len(got) != 0 {
		t.Errorf("of nothing: %+v", got)
	}
}

// TestRequestsOfSortsThatNoRuleHas asks for all sorts at all sites where there are rules for one sort or another.
func TestRequestsOfSortsThatNoRuleHas(t *testing.T) {
	for ruleSort := range 5 {
		for _, action := range []int{impl.AcAllow, impl.AcBlock} {
			b := impl.Browser{Rules: []impl.Rule{{Ext: 1, Prio: 1, Pattern: impl.Pattern{Owner: 2, Sub: -1}, Sort: ruleSort, Action: action}}}
			for _, s := range allSites() {
				for sort := -1; sort <= 6; sort++ {
					want := impl.Outcome{Code: impl.OuDone, Site: s, Path: []impl.Site{s}}
					if action == impl.AcBlock && s.Owner == 2 && (ruleSort == 0 || ruleSort == sort) {
						want.Code = impl.OuBlocked
					}
					if sort < 1 || sort > 4 {
						want = impl.Outcome{}
					}
					if got := impl.AskPage(b, impl.Request{Site: s, Sort: sort}); !sameOutcome(got, want) {
						t.Fatalf("AskPage(%+v, %+v, %d) = %+v", b, s, sort, got)
					}
				}
			}
		}
	}
	for _, s := range notSites {
		for sort := 1; sort <= 4; sort++ {
			if got := impl.AskPage(browser32(), impl.Request{Site: s, Sort: sort}); !isZero(got) {
				t.Errorf("at %+v: %+v", s, got)
			}
		}
		// At what is no site nothing is denied.
		b := browser32()
		b.Limits = []impl.Limit{{Pattern: everywhere}}
		if got := impl.RulesInForce(b, s); !slices.Equal(got, b.Rules) {
			t.Errorf("at %+v: %+v", s, got)
		}
	}
}

// TestAskPageGoesOnWithTheSameRules sends a request from where a rule is in force to where its extension is denied.
func TestAskPageGoesOnWithTheSameRules(t *testing.T) {
	site := func(owner int) impl.Site { return impl.Site{Owner: owner} }
	b := impl.Browser{Rules: []impl.Rule{from18(site(1), site(2)), from18(site(2), site(3))}}
	for i := range b.Rules {
		b.Rules[i].Ext = 1 + i
	}
	for i, c := range []struct {
		limit impl.Limit
		from  int
		want  []impl.Site
	}{
		{impl.Limit{Ext: 5, Pattern: everywhere}, 1, []impl.Site{site(1), site(2), site(3)}},
		{impl.Limit{Ext: 2, Pattern: impl.Pattern{Owner: 2, Sub: -1}}, 1, []impl.Site{site(1), site(2), site(3)}},
		{impl.Limit{Ext: 2, Pattern: impl.Pattern{Owner: 2, Sub: -1}}, 2, []impl.Site{site(2)}},
		{impl.Limit{Ext: 2, Pattern: impl.Pattern{Owner: 1, Sub: -1}}, 1, []impl.Site{site(1), site(2)}},
		{impl.Limit{Ext: 1, Pattern: impl.Pattern{Owner: 1, Sub: 0}}, 1, []impl.Site{site(1)}},
		{impl.Limit{Ext: 1, Pattern: impl.Pattern{Owner: 1, Sub: 1}}, 1, []impl.Site{site(1), site(2), site(3)}},
		{impl.Limit{Pattern: everywhere, Kind: impl.KdNet}, 1, []impl.Site{site(1)}},
		{impl.Limit{Pattern: everywhere, Kind: impl.KdRead}, 1, []impl.Site{site(1), site(2), site(3)}},
	} {
		b.Limits = []impl.Limit{{Ext: 4, Pattern: everywhere}, c.limit}
		got := impl.AskPage(b, impl.Request{Site: site(c.from), Sort: 1})
		want := impl.Outcome{Code: impl.OuDone, Site: c.want[len(c.want)-1], Path: c.want}
		if !sameOutcome(got, want) {
			t.Errorf("%d: %+v, want %+v", i, got, want)
		}
	}
	// Rules stay in force though nothing is granted, and also those that are not valid are returned.
	b.Limits, b.Now = nil, 9999
	b.Rules = append(b.Rules, impl.Rule{}, b.Rules[0])
	if got := impl.RulesInForce(b, site(1)); !slices.Equal(got, b.Rules) {
		t.Errorf("%+v", got)
	}
	b.Limits = []impl.Limit{{Pattern: everywhere}}
	if got := impl.RulesInForce(b, site(1)); len(got) != 0 {
		t.Errorf("%+v", got)
	}
}

func TestRequestsKeepTheirArguments(t *testing.T) {
	for _, b := range []impl.Browser{browser32(), act33(all33()...), full32(), {}} {
		keeps(t, "AskPage", impl.AskPage, b, impl.Request{Site: impl.Site{Owner: 2, Sub: 5}, Sort: 3})
		keeps(t, "RulesInForce", impl.RulesInForce, b, impl.Site{Owner: 9, Sub: 1})
		keeps(t, "ValuesFor", impl.ValuesFor, b, 1, []int{1, 2, 3, 4, 5, 6, 7, 8, 9, 10})
		keeps(t, "SentFrom", impl.SentFrom, b, 1, []int{1, 2, 3})
		keeps(t, "Leaving", impl.Leaving, b, []int{1, 2, 3})
	}
}
