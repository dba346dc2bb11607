package tests

import (
	"slices"
	"testing"

	"loop.example/g03001/impl"
)

// sameTable reports whether a table has these lists.
func sameTable(t impl.Table, wide []impl.Rule, by [][]impl.Rule) bool {
	return slices.Equal(t.Any, wide) && slices.EqualFunc(t.By, by, slices.Equal[[]impl.Rule])
}

// TestCompileRules compares the lists of a table with the sorted list.
func TestCompileRules(t *testing.T) {
	roll := dice(15)
	for range 1500 {
		l := someRules(roll, 25)
		lists := make([][]impl.Rule, 10)
		for _, r := range impl.SortRules(l) {
			lists[r.Pattern.Owner] = append(lists[r.Pattern.Owner], r)
		}
		c := impl.CompileRules(l)
		if !sameTable(c, lists[0], lists[1:]) {
			t.Fatalf("CompileRules(%+v) = %+v", l, c)
		}
		if got, want := impl.CountTable(c), len(impl.SortRules(l)); got != want {
			t.Fatalf("CountTable(%+v) = %d, want %d", c, got, want)
		}
		longest := 0
		for _, rules := range lists[1:] {
			longest = max(longest, len(lists[0])+len(rules))
		}
		if got := impl.LongestBucket(c); got != longest {
			t.Fatalf("LongestBucket(%+v) = %d, want %d", c, got, longest)
		}
	}
	for _, l := range [][]impl.Rule{nil, {}, badRules()} {
		if c := impl.CompileRules(l); len(c.Any) != 0 || len(c.By) != 9 || impl.CountTable(c) != 0 || impl.LongestBucket(c) != 0 {
			t.Errorf("no valid rules: %+v", c)
		}
	}
}

// TestCompiledRulesDecideAsTheListDoes asks many lists of rules, and their tables, many requests.
func TestCompiledRulesDecideAsTheListDoes(t *testing.T) {
	roll := dice(150)
	for range 1500 {
		l := someRules(roll, 12)
		c := impl.CompileRules(l)
		for _, q := range requests() {
			r, ok := impl.FastRule(c, q)
			i := decides(l, q)
			if ok != (i >= 0) || !ok && r != (impl.Rule{}) {
				t.Fatalf("%+v, %+v: %+v, %v", l, q, r, ok)
			}
			if ok && (!slices.Equal(weight(r), weight(l[i])) || !applies(r, q) || !slices.Contains(l, r)) {
				t.Fatalf("%+v, %+v: %+v instead of %+v", l, q, r, l[i])
			}
		}
	}
}

// TestTablesWithOneOwnerOnly has rules for one owner only, or for all, and asks for each owner.
func TestTablesWithOneOwnerOnly(t *testing.T) {
	for owner := range 10 {
		l := []impl.Rule{}
		for prio := 1; prio <= 3; prio++ {
			l = append(l, withRule(func(r *impl.Rule) { r.Prio, r.Pattern.Owner, r.Sort = prio, owner, 0 }))
		}
		c := impl.CompileRules(l)
		if impl.CountTable(c) != 3 || impl.LongestBucket(c) != 3 || len(c.By) != 9 {
			t.Errorf("%d: %+v", owner, c)
		}
		for _, s := range allSites() {
			r, ok := impl.FastRule(c, impl.Request{Site: s, Sort: 1})
			if ok != (owner == 0 || owner == s.Owner) || ok && r != l[2] || !ok && r != (impl.Rule{}) {
				t.Errorf("%d: the request to %v: %+v, %v", owner, s, r, ok)
			}
		}
	}
}

// TestFastRuleOfTwo has one rule for all owners and one for the owner 4.
func TestFastRuleOfTwo(t *testing.T) {
	wide := func(prio int) impl.Rule {
		return withRule(func(r *impl.Rule) { r.Pattern, r.Prio = everywhere, prio })
	}
	q := impl.Request{Site: impl.Site{Owner: 4, Sub: 4}, Sort: 3}
	for i, c := range []struct {
		any, own []impl.Rule
		want     impl.Rule
		ok       bool
	}{
		{nil, nil, impl.Rule{}, false}, {[]impl.Rule{wide(5)}, nil, wide(5), true}, {nil, []impl.Rule{rule13}, rule13, true},
		{[]impl.Rule{wide(4)}, []impl.Rule{rule13}, rule13, true}, {[]impl.Rule{wide(6)}, []impl.Rule{rule13}, wide(6), true},
		// The rule for all owners remains where the other one is not before it.
		{[]impl.Rule{wide(5)}, []impl.Rule{rule13}, wide(5), true},
		// The first one that applies is taken, also where the lists are not in order.
		{[]impl.Rule{wide(1), wide(9)}, nil, wide(1), true}, {nil, []impl.Rule{withRule(func(r *impl.Rule) { r.Prio = 1 }), rule13}, withRule(func(r *impl.Rule) { r.Prio = 1 }), true},
		{[]impl.Rule{withRule(func(r *impl.Rule) { r.Sort = 1 }), {}, wide(2)}, []impl.Rule{{}, withRule(func(r *impl.Rule) { r.Pattern.Owner = 3 }), rule13}, rule13, true},
		{[]impl.Rule{{}, {Ext: 9}}, badRules(), impl.Rule{}, false}, {badRules(), []impl.Rule{rule13}, rule13, true},
	} {
		table := impl.Table{Any: c.any, By: [][]impl.Rule{nil, nil, {rule13}, c.own}}
		if got, ok := impl.FastRule(table, q); got != c.want || ok != c.ok {
			t.Errorf("%d: %+v, %v", i, got, ok)
		}
	}
}

// TestTablesThatWereNotCompiled has tables with fewer and with more than nine lists.
func TestTablesThatWereNotCompiled(t *testing.T) {
	all := withRule(func(r *impl.Rule) { r.Pattern, r.Sort = everywhere, 0 })
	for n := range 13 {
		c := impl.Table{Any: []impl.Rule{rule13, rule13}}
		for i := range n {
			c.By = append(c.By, slices.Repeat([]impl.Rule{all}, i+1))
		}
		for _, s := range append(allSites(), notSites...) {
			r, ok := impl.FastRule(c, impl.Request{Site: s, Sort: 1})
			if want := impl.IsSite(s) && s.Owner <= n; ok != want || ok && r != all || !ok && r != (impl.Rule{}) {
				t.Errorf("%d lists: the request to %v: %+v, %v", n, s, r, ok)
			}
		}
		if got := impl.CountTable(c); got != 2+n*(n+1)/2 {
			t.Errorf("CountTable of %d lists: %d", n, got)
		}
		if got := impl.LongestBucket(c); got != 2+n {
			t.Errorf("LongestBucket of %d lists: %d", n, got)
		}
	}
	if r, ok := impl.FastRule(impl.Table{}, impl.Request{Site: site10, Sort: 1}); ok || r != (impl.Rule{}) {
		t.Errorf("the zero table: %+v, %v", r, ok)
	}
	if impl.CountTable(impl.Table{}) != 0 || impl.LongestBucket(impl.Table{}) != 0 {
		t.Error("the zero table has rules")
	}
	falling := impl.Table{By: [][]impl.Rule{{all, all, all}, {all}, nil}}
	if impl.LongestBucket(falling) != 3 || impl.CountTable(falling) != 4 {
		t.Error("the longest list is the first one")
	}
}

func TestEqualRules(t *testing.T) {
	checkEqual(t, "EqualRules", impl.EqualRules, [][]impl.Rule{
		{}, {rule13}, {{}}, {rule13, rule13}, {rule13, {}}, {{}, rule13},
		{withRule(func(r *impl.Rule) { r.Ext = 1 })}, {withRule(func(r *impl.Rule) { r.Prio = 1 })},
		{withRule(func(r *impl.Rule) { r.Pattern.Owner = 1 })}, {withRule(func(r *impl.Rule) { r.Pattern.Sub = 1 })},
		{withRule(func(r *impl.Rule) { r.Sort = 1 })}, {withRule(func(r *impl.Rule) { r.Action = 1 })},
		{sendTo(1, 1)}, {sendTo(1, 2)}, {sendTo(2, 1)},
	})
}

// TestTablesShareNoMemory writes over each list of a table.
func TestTablesShareNoMemory(t *testing.T) {
	l := []impl.Rule{}
	for owner := range 10 {
		for prio := range 3 {
			l = append(l, withRule(func(r *impl.Rule) { r.Pattern.Owner, r.Prio = owner, 1+prio }))
		}
	}
	g, check := guard(t, l, impl.Rule{Ext: 77})
	want := impl.CompileRules(l)
	for i := range 10 {
		c := impl.CompileRules(g)
		lists := append([][]impl.Rule{c.Any}, c.By...)
		scribble(lists[i], impl.Rule{Ext: -9})
		check("CompileRules")
		for j, rules := range append([][]impl.Rule{want.Any}, want.By...) {
			if i != j && !slices.Equal(lists[j], rules) {
				t.Errorf("the list %d shares memory with %d", i, j)
			}
		}
	}
	wide, checkAny := guard(t, want.Any, rule13)
	by, checkBy := guard(t, want.By[3], rule13)
	c := impl.Table{Any: wide, By: [][]impl.Rule{nil, nil, nil, by, nil}[:4]}
	impl.FastRule(c, impl.Request{Site: impl.Site{Owner: 4}, Sort: 3})
	impl.CountTable(c)
	impl.LongestBucket(c)
	checkAny("FastRule")
	checkBy("FastRule")
}
