package tests

import (
	"math"
	"slices"
	"testing"

	"loop.example/g03001/impl"
)

// powers38 says by other means what an extension may do at a site.
func powers38(b impl.Browser, ext int, s impl.Site) []int {
	l := []int{}
	for kind := 1; kind <= 4; kind++ {
		if impl.IsSite(s) && may33(b, ext, s, kind, false) {
			l = append(l, kind)
		}
	}
	return l
}

// TestCountsShowWhatThereIs counts in many browsers.
func TestCountsShowWhatThereIs(t *testing.T) {
	roll := dice(38)
	wide := [5]int{}
	for range 2500 {
		b := someBrowser(roll)
		for tab := -1; tab <= 3; tab++ {
			guests, all := 0, 0
			changed := []int{}
			if tab >= 0 && tab < len(b.Tabs) {
				for _, e := range b.Tabs[tab].Edits {
					all++
					if e.By != 0 {
						guests++
					}
				}
				for _, n := range impl.TabDocument(b.Tabs[tab]) {
					if n.By != 0 {
						changed = append(changed, n.Id)
					}
				}
			}
			if x, y := impl.EditShare(b, tab); x != guests || y != all {
				t.Fatalf("EditShare(%+v, %d) = %d, %d", b, tab, x, y)
			}
			if got := impl.ChangedNodes(b, tab); !slices.Equal(got, changed) {
				t.Fatalf("ChangedNodes(%+v, %d) = %v", b, tab, got)
			}
		}
		s := impl.Site{Owner: 1 + roll(4), Sub: roll(4)}
		most, widest := -1, 0
		for _, p := range b.Packs {
			got := impl.PowersOf(b, p.Ext, s)
			if !slices.Equal(got, powers38(b, p.Ext, s)) {
				t.Fatalf("PowersOf(%+v, %d, %+v) = %v", b, p.Ext, s, got)
			}
			if len(got) > most {
				most, widest = len(got), p.Ext
			}
		}
		if got := impl.WidestExt(b, s); got != widest {
			t.Fatalf("WidestExt(%+v, %+v) = %d, want %d", b, s, got, widest)
		}
		wide[widest]++
		for ext := -1; ext <= 6; ext++ {
			stored := len(without35(b.Store, ext, entryExt))
			if got := impl.StoredBy(b, ext); got != len(b.Store)-stored {
				t.Fatalf("StoredBy(%+v, %d) = %d", b, ext, got)
			}
		}
	}
	if slices.Min(wide[1:4]) < 50 || wide[0] == 0 {
		t.Errorf("the widest: %v", wide)
	}
}

func TestEditShare(t *testing.T) {
	b := browser32()
	for tab, want := range map[int][2]int{0: {2, 3}, 1: {0, 0}, 2: {0, 0}, -1: {0, 0}, math.MaxInt: {0, 0}, math.MinInt: {0, 0}} {
		if x, y := impl.EditShare(b, tab); x != want[0] || y != want[1] {
			t.Errorf("EditShare(%d) = %d, %d", tab, x, y)
		}
	}
	// Whoever is not the page counts, also what is no extension, and edits that do not apply.
	odd := impl.Browser{Tabs: []impl.Tab{{}, {Edits: []impl.Edit{{By: -1}, {By: 9}, {}, {By: 5}}}}}
	if x, y := impl.EditShare(odd, 1); x != 3 || y != 4 {
		t.Errorf("%d, %d", x, y)
	}
	if x, y := impl.EditShare(impl.Browser{}, 0); x != 0 || y != 0 {
		t.Errorf("of nothing: %d, %d", x, y)
	}
	for n := 39; n <= 42; n++ {
		if x, y := impl.EditShare(impl.Browser{Tabs: []impl.Tab{{Edits: edits31(n)}}}, 0); x != 0 || y != n {
			t.Errorf("of %d: %d, %d", n, x, y)
		}
	}
}

func TestChangedNodes(t *testing.T) {
	for i, c := range []struct {
		base  []impl.Node
		edits []impl.Edit
		want  []int
	}{
		{tab31().Base, nil, nil},
		{tab31().Base, tab31().Edits[:1], []int{3}},
		{tab31().Base, tab31().Edits, nil},
		{tab31().Base, []impl.Edit{{Kind: impl.EdMove, Node: 7, By: 2}, {Kind: impl.EdText, Node: 2, By: 1}, {Kind: impl.EdAdd, Node: 50, By: 3}, {Kind: impl.EdText, Node: 9, By: 1}}, []int{2, 7, 50}},
		{[]impl.Node{{Parent: -1, By: 5}}, nil, []int{0}},
		{fullDocument(), nil, []int{2, 4, 6, 8, 10, 14, 16, 18, 20, 22, 26, 28, 30}},
		// Of what is no document, too, in ascending order.
		{[]impl.Node{{Id: 9, By: 1}, {Id: 4}, {Id: -3, By: -1}, {Id: 9, By: 2}, {Id: 5, By: 1}}, nil, []int{-3, 5, 9}},
		{nil, tab31().Edits, nil},
	} {
		b := impl.Browser{Tabs: []impl.Tab{tab31(), {Base: c.base, Edits: c.edits}}}
		if got := impl.ChangedNodes(b, 1); !slices.Equal(got, c.want) {
			t.Errorf("%d: %v, want %v", i, got, c.want)
		}
		for _, tab := range []int{math.MinInt, -1, 2, math.MaxInt} {
			if got := impl.ChangedNodes(b, tab); len(got) != 0 {
				t.Errorf("%d: of the tab %d: %v", i, tab, got)
			}
		}
	}
}

// TestPowersWithoutAnyGrant asks for what may be done where nothing is granted, or nothing that is in force.
func TestPowersWithoutAnyGrant(t *testing.T) {
	for i, b := range []impl.Browser{
		{}, act33(), withAct(func(b *impl.Browser) { b.Now = 41 }), withAct(func(b *impl.Browser) { b.Now = -1 }),
		withAct(func(b *impl.Browser) { b.Limits = []impl.Limit{{Pattern: everywhere}} }),
		withAct(func(b *impl.Browser) {
			b.Tabs[0].Click = 5
			for i := range b.Grants {
				b.Grants[i].Click = true
			}
		}),
		act33(badGrants()...),
	} {
		for ext := -1; ext <= 6; ext++ {
			for _, s := range append(allSites(), notSites...) {
				if got := impl.PowersOf(b, ext, s); len(got) != 0 {
					t.Fatalf("%d: PowersOf(%d, %+v) = %v", i, ext, s, got)
				}
			}
		}
		want := 0
		if len(b.Packs) > 0 {
			// It has the most, which is none.
			want = 1
		}
		if got := impl.WidestExt(b, impl.Site{Owner: 1}); got != want {
			t.Errorf("%d: WidestExt = %d", i, got)
		}
	}
	b := act33(all33()...)
	for _, s := range allSites() {
		if got := impl.PowersOf(b, 1, s); !slices.Equal(got, []int{1, 2, 3, 4}) || len(impl.PowersOf(b, 2, s)) != 0 {
			t.Errorf("at %+v: %v", s, got)
		}
	}
	for _, s := range notSites {
		if got := impl.PowersOf(b, 1, s); len(got) != 0 {
			t.Errorf("at %+v: %v", s, got)
		}
	}
	// A package is not asked for.
	b.Packs = nil
	if got := impl.PowersOf(b, 1, impl.Site{Owner: 1}); len(got) != 4 || impl.WidestExt(b, impl.Site{Owner: 1}) != 0 {
		t.Errorf("without a package: %v", got)
	}
}

func TestWidestExt(t *testing.T) {
	site := impl.Site{Owner: 3, Sub: 3}
	grants := func(numbers ...int) []impl.Grant {
		l := []impl.Grant{}
		for i, n := range numbers {
			for kind := 1; kind <= n; kind++ {
				l = append(l, grantFor(i+1, kind, 3, 3))
			}
		}
		return l
	}
	for i, c := range []struct {
		numbers, packs []int
		want           int
	}{
		{[]int{1, 2, 3, 4}, []int{1, 2, 3, 4}, 4}, {[]int{1, 2, 3, 4}, []int{1, 2, 3}, 3}, {[]int{4, 3, 2, 1}, []int{1, 2, 3, 4}, 1},
		{[]int{2, 4, 4, 1}, []int{1, 2, 3, 4}, 2}, {[]int{2, 4, 4, 1}, []int{4, 3, 2, 1}, 3}, {[]int{2, 2, 2}, []int{3, 1, 2}, 3},
		{[]int{0, 0, 1}, []int{1, 2, 3}, 3}, {[]int{0, 0, 0}, []int{2, 1, 3}, 2}, {[]int{4}, nil, 0}, {nil, []int{5}, 5},
	} {
		b := impl.Browser{Grants: grants(c.numbers...)}
		for _, ext := range c.packs {
			b.Packs = append(b.Packs, impl.Package{Ext: ext})
		}
		if got := impl.WidestExt(b, site); got != c.want {
			t.Errorf("%d: %d, want %d", i, got, c.want)
		}
		// Elsewhere none has any.
		first := append(slices.Clone(c.packs), 0)[0]
		if got := impl.WidestExt(b, impl.Site{Owner: 3, Sub: 4}); got != first {
			t.Errorf("%d: elsewhere %d", i, got)
		}
	}
}

func TestRulesLeftAndStoredBy(t *testing.T) {
	for n := range 25 {
		if got := impl.RulesLeft(impl.Browser{Rules: make([]impl.Rule, n)}); got != max(20-n, 0) {
			t.Errorf("beside %d rules: %d", n, got)
		}
		if got := impl.RulesLeft(impl.Browser{Rules: own17(1, n)}); got != max(20-n, 0) {
			t.Errorf("beside %d rules of one: %d", n, got)
		}
	}
	b := impl.Browser{Store: entries(1, 0, 0, 0, 2, 0, 0, 0, 1, 0, 0, 0, 0, 1, 1, 1, -1, 2, 2, 2, 9, 9, 9, 9, 1, 9, 9, 9)}
	for ext, want := range map[int]int{1: 3, 2: 1, 0: 1, -1: 1, 9: 1, 3: 0, math.MaxInt: 0} {
		if got := impl.StoredBy(b, ext); got != want {
			t.Errorf("StoredBy(%d) = %d", ext, got)
		}
	}
	for n := 23; n <= 25; n++ {
		if got := impl.StoredBy(impl.Browser{Store: longStore(n)}, 3); got != n-20 {
			t.Errorf("of %d: %d", n, got)
		}
	}
}

func TestMeasuresKeepTheirArguments(t *testing.T) {
	for _, b := range []impl.Browser{browser32(), full32(), {}} {
		for tab := -1; tab <= 2; tab++ {
			keeps(t, "EditShare", impl.EditShare, b, tab)
			keeps(t, "ChangedNodes", impl.ChangedNodes, b, tab)
		}
		keeps(t, "PowersOf", impl.PowersOf, b, 1, impl.Site{Owner: 1, Sub: 4})
		keeps(t, "RulesLeft", impl.RulesLeft, b)
		keeps(t, "StoredBy", impl.StoredBy, b, 1)
		keeps(t, "WidestExt", impl.WidestExt, b, impl.Site{Owner: 1, Sub: 4})
	}
}
