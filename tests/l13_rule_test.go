package tests

import (
	"cmp"
	"math"
	"slices"
	"testing"

	"loop.example/g03001/impl"
)

// rule13 blocks for the extension 2 the requests of the sort 3 to sites of the owner 4.
var rule13 = impl.Rule{Ext: 2, Prio: 5, Pattern: impl.Pattern{Owner: 4, Sub: -1}, Sort: 3, Action: impl.AcBlock}

func withRule(change func(r *impl.Rule)) impl.Rule {
	r := rule13
	change(&r)
	return r
}

func sendTo(owner int, sub int) impl.Rule {
	return withRule(func(r *impl.Rule) { r.Action, r.To = impl.AcSend, impl.Site{Owner: owner, Sub: sub} })
}

// badRules has rules that are not valid, each for one reason, and of the greatest Prio where that is possible.
func badRules() []impl.Rule {
	l := []impl.Rule{
		{},
		withRule(func(r *impl.Rule) { r.Ext = 0 }),
		withRule(func(r *impl.Rule) { r.Ext = 6 }),
		withRule(func(r *impl.Rule) { r.Prio = 0 }),
		withRule(func(r *impl.Rule) { r.Prio = 10 }),
		withRule(func(r *impl.Rule) { r.Sort = -1 }),
		withRule(func(r *impl.Rule) { r.Sort = 5 }),
		withRule(func(r *impl.Rule) { r.Action = 0 }),
		withRule(func(r *impl.Rule) { r.Action = 4 }),
		withRule(func(r *impl.Rule) { r.Action = -1 }),
		withRule(func(r *impl.Rule) { r.To = impl.Site{Owner: 1} }),
		withRule(func(r *impl.Rule) { r.To = impl.Site{Sub: 1} }),
		withRule(func(r *impl.Rule) { r.Action, r.To = impl.AcAllow, impl.Site{Owner: 9, Sub: 9} }),
	}
	for _, p := range notPatterns {
		l = append(l, withRule(func(r *impl.Rule) { r.Pattern = p }))
	}
	for _, s := range notSites {
		l = append(l, withRule(func(r *impl.Rule) { r.Action, r.To = impl.AcSend, s }))
	}
	for i := range l {
		if l[i].Prio == 5 {
			l[i].Prio = 9
		}
	}
	return l
}

// someRule returns a rule like many others; about one of nine is not valid.
func someRule(roll func(n int) int) impl.Rule {
	if roll(9) == 0 {
		return badRules()[roll(len(badRules()))]
	}
	r := impl.Rule{Ext: 1 + roll(3), Prio: 1 + roll(2), Pattern: impl.Pattern{Owner: roll(4), Sub: roll(3) - 1}, Action: 1 + roll(3)}
	if roll(2) == 0 {
		r.Sort = 1 + roll(2)
	}
	if r.Action == impl.AcSend {
		r.To = impl.Site{Owner: 1 + roll(3), Sub: roll(2)}
	}
	return r
}

func someRules(roll func(n int) int, n int) []impl.Rule {
	l := []impl.Rule{}
	for range roll(n + 1) {
		l = append(l, someRule(roll))
	}
	return l
}

// applies says by other means whether a valid rule is for a request.
func applies(r impl.Rule, q impl.Request) bool {
	return impl.IsRule(r) && impl.IsRequest(q) && matches(r.Pattern, q.Site) && (r.Sort == 0 || r.Sort == q.Sort)
}

// weight has the numbers by which rules are ordered.
func weight(r impl.Rule) []int {
	return []int{10 - r.Prio, r.Action, r.Ext, r.To.Owner, r.To.Sub}
}

func TestRuleConstants(t *testing.T) {
	got := []int{impl.AcAllow, impl.AcBlock, impl.AcSend, impl.MaxRules, impl.MaxPrio, impl.MaxSorts}
	if !slices.Equal(got, []int{1, 2, 3, 20, 9, 4}) {
		t.Error(got)
	}
}

func TestIsRule(t *testing.T) {
	for _, base := range []impl.Rule{rule13, withRule(func(r *impl.Rule) { r.Action = impl.AcAllow }), sendTo(3, 0)} {
		around([][2]int{{1, 5}, {1, 9}, {0, 9}, {-1, 9}, {0, 4}}, func(field int, x int, inside bool) {
			r := base
			*[]*int{&r.Ext, &r.Prio, &r.Pattern.Owner, &r.Pattern.Sub, &r.Sort}[field] = x
			if got := impl.IsRule(r); got != inside {
				t.Errorf("IsRule(%+v) = %v", r, got)
			}
		})
	}
	for action := -1; action < 6; action++ {
		for _, s := range append(allSites(), notSites...) {
			r := withRule(func(r *impl.Rule) { r.Action, r.To = action, s })
			want := action == impl.AcSend && impl.IsSite(s) || (action == impl.AcAllow || action == impl.AcBlock) && s == impl.Site{}
			if got := impl.IsRule(r); got != want {
				t.Errorf("IsRule(%+v) = %v", r, got)
			}
		}
	}
	for _, r := range badRules() {
		if impl.IsRule(r) {
			t.Errorf("%+v is valid", r)
		}
	}
	for _, action := range []int{math.MinInt, math.MaxInt} {
		if impl.IsRule(withRule(func(r *impl.Rule) { r.Action = action })) {
			t.Errorf("the action %d is valid", action)
		}
	}
}

func TestIsRequest(t *testing.T) {
	around([][2]int{{1, 9}, {0, 9}, {1, 4}}, func(field int, x int, inside bool) {
		q := impl.Request{Site: impl.Site{Owner: 3, Sub: 3}, Sort: 3}
		*[]*int{&q.Site.Owner, &q.Site.Sub, &q.Sort}[field] = x
		if got := impl.IsRequest(q); got != inside {
			t.Errorf("IsRequest(%+v) = %v", q, got)
		}
	})
}

func TestApplies(t *testing.T) {
	for _, p := range allPatterns() {
		for sort := range 5 {
			r := withRule(func(r *impl.Rule) { r.Pattern, r.Sort = p, sort })
			for _, s := range []impl.Site{{Owner: 1}, {Owner: 4}, {Owner: 4, Sub: 5}, {Owner: 9, Sub: 9}, {Owner: 1, Sub: 5}} {
				for asked := range 6 {
					want := matches(p, s) && 1 <= asked && asked <= 4 && (sort == 0 || sort == asked)
					if got := impl.Applies(r, impl.Request{Site: s, Sort: asked}); got != want {
						t.Fatalf("%+v applies to %v of the sort %d: %v", r, s, asked, got)
					}
				}
			}
		}
	}
	all := withRule(func(r *impl.Rule) { r.Pattern, r.Sort = everywhere, 0 })
	for _, s := range notSites {
		if impl.Applies(all, impl.Request{Site: s, Sort: 1}) {
			t.Errorf("a rule applies to %v", s)
		}
	}
	for _, sort := range []int{-1, 0, 5, math.MaxInt} {
		if impl.Applies(all, impl.Request{Site: site10, Sort: sort}) {
			t.Errorf("a rule applies to the sort %d", sort)
		}
	}
	for _, r := range badRules() {
		for _, s := range []impl.Site{{Owner: 4, Sub: 4}, impl.Site(r.Pattern)} {
			for _, sort := range []int{3, r.Sort} {
				if impl.Applies(r, impl.Request{Site: s, Sort: sort}) {
					t.Errorf("%+v applies to %v", r, s)
				}
			}
		}
	}
}

// TestIsBefore has for each pair the rule that counts more first.
func TestIsBefore(t *testing.T) {
	for i, c := range [][2]impl.Rule{
		{withRule(func(r *impl.Rule) { r.Prio = 6; r.Action = 3; r.Ext = 5; r.To = impl.Site{Owner: 9, Sub: 9} }), rule13},
		{withRule(func(r *impl.Rule) { r.Action = 1; r.Ext = 5; r.To = impl.Site{Owner: 9, Sub: 9} }), rule13},
		{withRule(func(r *impl.Rule) { r.Ext = 1; r.To = impl.Site{Owner: 9, Sub: 9} }), rule13},
		{sendTo(3, 9), sendTo(4, 0)},
		{sendTo(3, 8), sendTo(3, 9)},
		{sendTo(1, 9), sendTo(9, 0)},
		{rule13, sendTo(1, 0)},
		{withRule(func(r *impl.Rule) { r.Prio = math.MaxInt }), withRule(func(r *impl.Rule) { r.Prio = math.MinInt })},
		{withRule(func(r *impl.Rule) { r.Action = math.MinInt }), withRule(func(r *impl.Rule) { r.Action = math.MaxInt })},
		{withRule(func(r *impl.Rule) { r.Ext = math.MinInt }), withRule(func(r *impl.Rule) { r.Ext = math.MaxInt })},
		{sendTo(math.MinInt, 0), sendTo(math.MaxInt, 0)},
		{sendTo(1, math.MinInt), sendTo(1, math.MaxInt)},
	} {
		if !impl.IsBefore(c[0], c[1]) || impl.IsBefore(c[1], c[0]) {
			t.Errorf("%d: %+v and %+v", i, c[0], c[1])
		}
	}
	same := withRule(func(r *impl.Rule) { r.Pattern, r.Sort = everywhere, 0 })
	if impl.IsBefore(rule13, same) || impl.IsBefore(same, rule13) || impl.IsBefore(rule13, rule13) {
		t.Error("rules that differ in Pattern and Sort alone are before each other")
	}
}

// TestTheOrderOfRulesIsStrict compares all triples of many rules, valid or not, with the order of their weights.
func TestTheOrderOfRulesIsStrict(t *testing.T) {
	roll := dice(13)
	l := []impl.Rule{rule13, sendTo(2, 0), sendTo(2, 1), sendTo(1, 5)}
	for range 70 {
		l = append(l, someRule(roll))
	}
	tied := func(a impl.Rule, b impl.Rule) bool { return !impl.IsBefore(a, b) && !impl.IsBefore(b, a) }
	for _, a := range l {
		for _, b := range l {
			if got, want := impl.IsBefore(a, b), slices.Compare(weight(a), weight(b)) < 0; got != want {
				t.Fatalf("IsBefore(%+v, %+v) = %v", a, b, got)
			}
			if impl.IsBefore(a, b) && impl.IsBefore(b, a) || tied(a, b) != slices.Equal(weight(a), weight(b)) {
				t.Fatalf("%+v and %+v", a, b)
			}
			for _, c := range l {
				if impl.IsBefore(a, b) && impl.IsBefore(b, c) && !impl.IsBefore(a, c) || tied(a, b) && tied(b, c) && !tied(a, c) {
					t.Fatalf("%+v, %+v and %+v", a, b, c)
				}
			}
		}
	}
}

// TestRulesThatAreEqualButForTheirTarget orders all targets.
func TestRulesThatAreEqualButForTheirTarget(t *testing.T) {
	for i, a := range allSites() {
		for j, b := range allSites() {
			if got := impl.IsBefore(sendTo(a.Owner, a.Sub), sendTo(b.Owner, b.Sub)); got != (cmp.Compare(i, j) < 0) {
				t.Fatalf("to %v before to %v: %v", a, b, got)
			}
		}
	}
}

func TestActionName(t *testing.T) {
	names := map[int]string{1: "allow", 2: "block", 3: "send"}
	for _, action := range []int{math.MinInt, -3, -2, -1, 0, 1, 2, 3, 4, 5, math.MaxInt} {
		if got := impl.ActionName(action); got != names[action] {
			t.Errorf("ActionName(%d) = %q", action, got)
		}
	}
}

func TestRulesOf(t *testing.T) {
	l := append([]impl.Rule{rule13, {Ext: 1}, sendTo(1, 1), {Ext: 3, Prio: 99}, rule13}, badRules()...)
	checkPicked(t, "RulesOf", impl.RulesOf, l, func(r impl.Rule, ext int) bool { return r.Ext == ext })
}
