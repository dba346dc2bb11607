package tests

import (
	"math"
	"slices"
	"testing"

	"loop.example/g03001/impl"
)

// follows says by other means where a request ends: it looks for each site in the path.
func follows(l []impl.Rule, q impl.Request) impl.Outcome {
	if !impl.IsRequest(q) {
		return impl.Outcome{}
	}
	o := impl.Outcome{Site: q.Site}
	for {
		if slices.Contains(o.Path, o.Site) {
			o.Code = impl.OuLoop
			return o
		}
		if len(o.Path) == 6 {
			o.Code = impl.OuLong
			return o
		}
		o.Path = append(o.Path, o.Site)
		i := decides(l, impl.Request{Site: o.Site, Sort: q.Sort})
		switch {
		case i < 0 || l[i].Action == impl.AcAllow:
			o.Code = impl.OuDone
			return o
		case l[i].Action == impl.AcBlock:
			o.Code = impl.OuBlocked
			return o
		}
		o.Site = l[i].To
	}
}

func sameOutcome(a impl.Outcome, b impl.Outcome) bool {
	return a.Code == b.Code && a.Site == b.Site && slices.Equal(a.Path, b.Path)
}

// from18 sends the requests of all sorts from one site on to another one.
func from18(from impl.Site, to impl.Site) impl.Rule {
	return impl.Rule{Ext: 1, Prio: 5, Pattern: impl.Pattern(from), Action: impl.AcSend, To: to}
}

// chain18 sends from each of the sites to the next one.
func chain18(sites ...impl.Site) []impl.Rule {
	l := []impl.Rule{}
	for i := 1; i < len(sites); i++ {
		l = append(l, from18(sites[i-1], sites[i]))
	}
	return l
}

func TestFollowConstants(t *testing.T) {
	got := []int{impl.MaxHops, impl.OuDone, impl.OuBlocked, impl.OuLoop, impl.OuLong}
	if !slices.Equal(got, []int{6, 1, 2, 3, 4}) {
		t.Error(got)
	}
}

// TestEveryChainOfRequestsEnds follows many requests through many lists of rules.
func TestEveryChainOfRequestsEnds(t *testing.T) {
	roll := dice(18)
	codes := map[int]int{}
	for range 2000 {
		l := someRules(roll, 14)
		for range roll(8) {
			l = append(l, from18(impl.Site{Owner: 1 + roll(4), Sub: roll(3)}, impl.Site{Owner: 1 + roll(4), Sub: roll(3)}))
		}
		for _, q := range requests() {
			got, want := impl.FollowRequest(l, q), follows(l, q)
			if !sameOutcome(got, want) {
				t.Fatalf("FollowRequest(%+v, %+v) = %+v, want %+v", l, q, got, want)
			}
			if got := impl.IsSettled(l, q); got != (want.Code == impl.OuDone || want.Code == impl.OuBlocked) {
				t.Fatalf("IsSettled(%+v, %+v) = %v", l, q, got)
			}
			codes[got.Code]++
		}
	}
	for code := range 5 {
		if codes[code] < 20 {
			t.Errorf("only %d requests have the outcome %d", codes[code], code)
		}
	}
}

// TestChainsUpToMaxHops has chains of one to nine sites, at the end of which nothing, a block or a way back stands.
func TestChainsUpToMaxHops(t *testing.T) {
	sites := []impl.Site{{Owner: 1}, {Owner: 1, Sub: 1}, {Owner: 2}, {Owner: 9, Sub: 9}, {Owner: 9}, {Owner: 3, Sub: 4}, {Owner: 4, Sub: 3}, {Owner: 7}, {Owner: 8}}
	q := impl.Request{Site: sites[0], Sort: 4}
	for n := 1; n <= len(sites); n++ {
		last := sites[n-1]
		chain := chain18(sites[:n]...)
		block := impl.Rule{Ext: 2, Prio: 9, Pattern: impl.Pattern(last), Action: impl.AcBlock}
		allow := impl.Rule{Ext: 2, Prio: 9, Pattern: impl.Pattern(last), Action: impl.AcAllow}
		type end struct {
			l    []impl.Rule
			code int
			site impl.Site
		}
		ends := []end{{chain, impl.OuDone, last}, {append(chain18(sites[:n]...), block), impl.OuBlocked, last}, {append(chain18(sites[:n]...), allow), impl.OuDone, last}}
		for _, back := range sites[:n] {
			ends = append(ends, end{append(chain18(sites[:n]...), from18(last, back)), impl.OuLoop, back})
		}
		for _, e := range ends {
			want := impl.Outcome{Code: e.code, Site: e.site, Path: sites[:min(n, 6)]}
			if n > 6 {
				want.Code, want.Site = impl.OuLong, sites[6]
			}
			if got := impl.FollowRequest(e.l, q); !sameOutcome(got, want) {
				t.Errorf("%d sites: %+v, want %+v", n, got, want)
			}
		}
	}
}

// TestChainsThatEndWhereTheyBegan come back to the first site, which is not asked for again.
func TestChainsThatEndWhereTheyBegan(t *testing.T) {
	a, b, c := impl.Site{Owner: 1}, impl.Site{Owner: 2}, impl.Site{Owner: 1, Sub: 1}
	for i, x := range []struct {
		l    []impl.Rule
		want impl.Outcome
	}{
		{chain18(a, a), impl.Outcome{Code: 3, Site: a, Path: []impl.Site{a}}},
		{chain18(a, b, a), impl.Outcome{Code: 3, Site: a, Path: []impl.Site{a, b}}},
		{chain18(a, b, c, a), impl.Outcome{Code: 3, Site: a, Path: []impl.Site{a, b, c}}},
		{chain18(a, b, c, b), impl.Outcome{Code: 3, Site: b, Path: []impl.Site{a, b, c}}},
		{chain18(a, b, b), impl.Outcome{Code: 3, Site: b, Path: []impl.Site{a, b}}},
		// A rule that sends all sites to one sends that one to itself.
		{[]impl.Rule{{Ext: 1, Prio: 1, Pattern: everywhere, Action: impl.AcSend, To: b}}, impl.Outcome{Code: 3, Site: b, Path: []impl.Site{a, b}}},
		{[]impl.Rule{{Ext: 1, Prio: 1, Pattern: everywhere, Action: impl.AcSend, To: a}}, impl.Outcome{Code: 3, Site: a, Path: []impl.Site{a}}},
	} {
		q := impl.Request{Site: a, Sort: 1}
		if got := impl.FollowRequest(x.l, q); !sameOutcome(got, x.want) {
			t.Errorf("%d: %+v, want %+v", i, got, x.want)
		}
		if impl.IsSettled(x.l, q) {
			t.Errorf("%d: a loop is settled", i)
		}
	}
}

func TestFollowRequestThatIsNotValid(t *testing.T) {
	all := []impl.Rule{{Ext: 1, Prio: 1, Pattern: everywhere, Action: impl.AcSend, To: impl.Site{Owner: 1}}}
	for _, s := range notSites {
		q := impl.Request{Site: s, Sort: 1}
		if got := impl.FollowRequest(all, q); !sameOutcome(got, impl.Outcome{}) || impl.IsSettled(all, q) || impl.IsSettled(nil, q) {
			t.Errorf("%v: %+v", s, got)
		}
	}
	for _, sort := range []int{math.MinInt, -1, 0, 5, math.MaxInt} {
		q := impl.Request{Site: site10, Sort: sort}
		if got := impl.FollowRequest(all, q); !sameOutcome(got, impl.Outcome{}) || impl.IsSettled(all, q) || impl.IsSettled(nil, q) {
			t.Errorf("the sort %d: %+v", sort, got)
		}
	}
	q := impl.Request{Site: site10, Sort: 1}
	for _, l := range [][]impl.Rule{nil, badRules()} {
		want := impl.Outcome{Code: impl.OuDone, Site: site10, Path: []impl.Site{site10}}
		if got := impl.FollowRequest(l, q); !sameOutcome(got, want) || !impl.IsSettled(l, q) {
			t.Errorf("without rules: %+v", got)
		}
	}
}

func TestLoopsFrom(t *testing.T) {
	roll := dice(180)
	for range 300 {
		l := someRules(roll, 14)
		for owner := -1; owner <= 11; owner++ {
			want := []int{}
			for n := range 40 {
				if follows(l, impl.Request{Site: impl.Site{Owner: owner, Sub: n % 10}, Sort: 1 + n/10}).Code == impl.OuLoop {
					want = append(want, n)
				}
			}
			if got := impl.LoopsFrom(l, owner); !slices.Equal(got, want) {
				t.Fatalf("LoopsFrom(%+v, %d) = %v, want %v", l, owner, got, want)
			}
		}
	}
	self := from18(impl.Site{Owner: 9, Sub: 9}, impl.Site{Owner: 9, Sub: 9})
	for sort, want := range [][]int{{9, 19, 29, 39}, {9}, {19}, {29}, {39}} {
		self.Sort = sort
		if got := impl.LoopsFrom([]impl.Rule{self}, 9); !slices.Equal(got, want) {
			t.Errorf("the sort %d: %v", sort, got)
		}
	}
	for _, owner := range []int{math.MinInt, 0, 1, 8, 10, math.MaxInt} {
		if got := impl.LoopsFrom([]impl.Rule{self}, owner); len(got) != 0 {
			t.Errorf("LoopsFrom %d: %v", owner, got)
		}
	}
}

func TestOutcomeName(t *testing.T) {
	names := map[int]string{1: "done", 2: "blocked", 3: "loop", 4: "long"}
	for _, code := range []int{math.MinInt, -1, 0, 1, 2, 3, 4, 5, 6, math.MaxInt} {
		if got := impl.OutcomeName(code); got != names[code] {
			t.Errorf("OutcomeName(%d) = %q", code, got)
		}
	}
}

func TestEqualOutcomes(t *testing.T) {
	s := impl.Site{Owner: 1}
	l := []impl.Outcome{
		{}, {Code: 1}, {Site: s}, {Site: impl.Site{Sub: 1}}, {Path: []impl.Site{s}}, {Path: []impl.Site{s, s}}, {Path: []impl.Site{{Owner: 1, Sub: 1}}},
		{Code: 1, Site: s, Path: []impl.Site{s}}, {Code: 2, Site: s, Path: []impl.Site{s}}, {Code: 1, Site: s}, {Code: 1, Site: s, Path: []impl.Site{s, {}}},
	}
	for i, a := range l {
		for j, b := range l {
			b.Path = slices.Clone(b.Path)
			if got := impl.EqualOutcomes(a, b); got != (i == j) {
				t.Errorf("EqualOutcomes(%+v, %+v) = %v", a, b, got)
			}
		}
	}
	if !impl.EqualOutcomes(impl.Outcome{Path: []impl.Site{}}, impl.Outcome{}) || !impl.EqualOutcomes(impl.Outcome{}, impl.Outcome{Path: []impl.Site{}}) {
		t.Error("nil and empty are not equal")
	}
}

func TestFollowingKeepsItsArguments(t *testing.T) {
	a, b := impl.Site{Owner: 1}, impl.Site{Owner: 2}
	l, check := guard(t, chain18(a, b), impl.Rule{Ext: 1, Prio: 9, Pattern: everywhere, Action: impl.AcBlock})
	q := impl.Request{Site: a, Sort: 1}
	o := impl.FollowRequest(l, q)
	// What lies behind the list is no part of it.
	if o.Code != impl.OuDone || o.Site != b {
		t.Errorf("%+v", o)
	}
	scribble(o.Path, impl.Site{Owner: -9})
	if again := impl.FollowRequest(l, q); !slices.Equal(again.Path, []impl.Site{a, b}) {
		t.Errorf("%+v", again)
	}
	impl.IsSettled(l, q)
	impl.LoopsFrom(l, 1)
	check("FollowRequest")
	path, checkPath := guard(t, []impl.Site{a, b}, a)
	impl.EqualOutcomes(impl.Outcome{Path: path}, impl.Outcome{Path: path})
	checkPath("EqualOutcomes")
}
