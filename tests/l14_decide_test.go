package tests

import (
	"slices"
	"testing"

	"loop.example/g03001/impl"
)

// requests has the requests to sites of the owner 1 to 4, with the Sub 0 to 2 and each sort, and some that are not valid.
func requests() []impl.Request {
	l := []impl.Request{{}, {Sort: 1}, {Site: impl.Site{Owner: 1}}, {Site: impl.Site{Owner: 1}, Sort: 5}, {Site: impl.Site{Owner: 10}, Sort: 1}, {Site: impl.Site{Owner: 1, Sub: -1}, Sort: 1}}
	for n := range 48 {
		l = append(l, impl.Request{Site: impl.Site{Owner: 1 + n/12, Sub: n % 3}, Sort: 1 + n/3%4})
	}
	return l
}

// decides says by other means which rule decides: it tries for each whether another one takes its place.
func decides(l []impl.Rule, q impl.Request) int {
	for i, r := range l {
		beaten := func(x impl.Rule) bool { return applies(x, q) && slices.Compare(weight(x), weight(r)) < 0 }
		if applies(r, q) && !slices.ContainsFunc(l, beaten) {
			return i
		}
	}
	return -1
}

// TestNoRuleThatAppliesCountsMoreThanTheOneThatDecides asks many lists of rules many requests.
func TestNoRuleThatAppliesCountsMoreThanTheOneThatDecides(t *testing.T) {
	roll := dice(14)
	for range 1500 {
		l := someRules(roll, 12)
		for _, q := range requests() {
			want := decides(l, q)
			got := impl.DecideRule(l, q)
			if got != want {
				t.Fatalf("DecideRule(%+v, %+v) = %d, want %d", l, q, got, want)
			}
			action, who := impl.AcAllow, 0
			if want >= 0 {
				action, who = l[want].Action, l[want].Ext
			}
			if impl.ActionFor(l, q) != action || impl.WhoDecides(l, q) != who {
				t.Fatalf("%+v, %+v: the action is %d, and %d decides", l, q, impl.ActionFor(l, q), impl.WhoDecides(l, q))
			}
			all := []int{}
			for i, r := range l {
				if applies(r, q) {
					all = append(all, i)
				}
			}
			if got := impl.AppliesTo(l, q); !slices.Equal(got, all) {
				t.Fatalf("AppliesTo(%+v, %+v) = %v, want %v", l, q, got, all)
			}
		}
	}
}

func TestDecideRule(t *testing.T) {
	q := impl.Request{Site: impl.Site{Owner: 4, Sub: 4}, Sort: 3}
	lower := withRule(func(r *impl.Rule) { r.Prio = 4 })
	same := withRule(func(r *impl.Rule) { r.Pattern, r.Sort = everywhere, 0 })
	elsewhere := withRule(func(r *impl.Rule) { r.Prio, r.Pattern.Owner = 9, 5 })
	allow := withRule(func(r *impl.Rule) { r.Action, r.Ext = impl.AcAllow, 4 })
	for i, c := range []struct {
		l         []impl.Rule
		want, act int
		who       int
	}{
		{[]impl.Rule{rule13}, 0, impl.AcBlock, 2}, {[]impl.Rule{lower, rule13}, 1, impl.AcBlock, 2}, {[]impl.Rule{rule13, lower}, 0, impl.AcBlock, 2},
		{[]impl.Rule{same, rule13}, 0, impl.AcBlock, 2}, {[]impl.Rule{rule13, same}, 0, impl.AcBlock, 2}, {[]impl.Rule{lower, rule13, rule13, same}, 1, impl.AcBlock, 2},
		{[]impl.Rule{elsewhere, rule13}, 1, impl.AcBlock, 2}, {[]impl.Rule{elsewhere, lower, elsewhere}, 1, impl.AcBlock, 2},
		{[]impl.Rule{rule13, allow}, 1, impl.AcAllow, 4}, {[]impl.Rule{sendTo(2, 0), sendTo(1, 9), sendTo(1, 8)}, 2, impl.AcSend, 2},
		{append(badRules(), lower), len(badRules()), impl.AcBlock, 2},
	} {
		if got := impl.DecideRule(c.l, q); got != c.want || impl.ActionFor(c.l, q) != c.act || impl.WhoDecides(c.l, q) != c.who {
			t.Errorf("%d: the rule %d, the action %d, %d decides", i, got, impl.ActionFor(c.l, q), impl.WhoDecides(c.l, q))
		}
	}
}

// TestListsInWhichNoRuleApplies has for the requests no rule that is for them.
func TestListsInWhichNoRuleApplies(t *testing.T) {
	q := impl.Request{Site: impl.Site{Owner: 4, Sub: 4}, Sort: 3}
	for why, c := range map[string]struct {
		l []impl.Rule
		q impl.Request
	}{
		"nil": {nil, q}, "empty": {[]impl.Rule{}, q}, "not valid": {badRules(), q},
		"another site":           {[]impl.Rule{withRule(func(r *impl.Rule) { r.Pattern.Owner = 3 }), withRule(func(r *impl.Rule) { r.Pattern.Sub = 3 })}, q},
		"another sort":           {[]impl.Rule{withRule(func(r *impl.Rule) { r.Sort = 4 }), withRule(func(r *impl.Rule) { r.Sort = 1 })}, q},
		"no request":             {[]impl.Rule{rule13, withRule(func(r *impl.Rule) { r.Pattern, r.Sort = everywhere, 0 })}, impl.Request{}},
		"no site":                {[]impl.Rule{withRule(func(r *impl.Rule) { r.Pattern = everywhere })}, impl.Request{Site: impl.Site{Owner: 10}, Sort: 3}},
		"no sort":                {[]impl.Rule{withRule(func(r *impl.Rule) { r.Sort = 0 })}, impl.Request{Site: q.Site}},
		"a sort beyond MaxSorts": {[]impl.Rule{withRule(func(r *impl.Rule) { r.Sort = 0 })}, impl.Request{Site: q.Site, Sort: 5}},
	} {
		if got := impl.DecideRule(c.l, c.q); got != -1 {
			t.Errorf("%s: DecideRule gives %d", why, got)
		}
		if got := impl.ActionFor(c.l, c.q); got != impl.AcAllow {
			t.Errorf("%s: ActionFor gives %d", why, got)
		}
		if got := impl.WhoDecides(c.l, c.q); got != 0 {
			t.Errorf("%s: WhoDecides gives %d", why, got)
		}
		if got := impl.AppliesTo(c.l, c.q); len(got) != 0 {
			t.Errorf("%s: AppliesTo gives %v", why, got)
		}
	}
}

// TestSortRules compares with an insertion of each rule behind those that do not count less.
func TestSortRules(t *testing.T) {
	roll := dice(140)
	for range 2000 {
		l := someRules(roll, 25)
		want := []impl.Rule{}
		for _, r := range l {
			if !impl.IsRule(r) {
				continue
			}
			at := len(want)
			for at > 0 && slices.Compare(weight(r), weight(want[at-1])) < 0 {
				at--
			}
			want = slices.Insert(want, at, r)
		}
		got := impl.SortRules(l)
		if !slices.Equal(got, want) {
			t.Fatalf("SortRules(%+v) = %+v", l, got)
		}
		for i := 1; i < len(got); i++ {
			if impl.IsBefore(got[i], got[i-1]) {
				t.Fatalf("%+v is before %+v", got[i], got[i-1])
			}
		}
	}
	if len(impl.SortRules(nil)) != 0 || len(impl.SortRules(badRules())) != 0 {
		t.Error("nothing becomes something")
	}
}

func TestDecisionsKeepTheirArguments(t *testing.T) {
	high := withRule(func(r *impl.Rule) { r.Prio = 9 })
	l, check := guard(t, []impl.Rule{sendTo(2, 0), sendTo(1, 0), {}, rule13}, high)
	q := impl.Request{Site: impl.Site{Owner: 4, Sub: 4}, Sort: 3}
	scribble(impl.SortRules(l), impl.Rule{Ext: -9})
	check("SortRules")
	// What lies behind the list is no part of it.
	if got := impl.DecideRule(l, q); got != 3 {
		t.Errorf("DecideRule gives %d", got)
	}
	impl.ActionFor(l, q)
	impl.WhoDecides(l, q)
	scribble(impl.AppliesTo(l, q), -9)
	check("the decisions")
	sorted, check := guard(t, impl.SortRules(l), high)
	scribble(impl.SortRules(sorted), impl.Rule{Ext: -9})
	check("SortRules of a sorted list")
}
