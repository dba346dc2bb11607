package tests

import (
	"slices"
	"testing"

	"loop.example/g03001/impl"
)

func TestIsSite(t *testing.T) {
	around([][2]int{{1, 9}, {0, 9}}, func(field int, x int, inside bool) {
		s := impl.Site{Owner: 5, Sub: 5}
		*[]*int{&s.Owner, &s.Sub}[field] = x
		if got := impl.IsSite(s); got != inside {
			t.Errorf("IsSite(%+v) = %v", s, got)
		}
	})
	for _, s := range allSites() {
		if !impl.IsSite(s) {
			t.Errorf("%+v is no site", s)
		}
	}
	for _, s := range notSites {
		if impl.IsSite(s) {
			t.Errorf("%+v is a site", s)
		}
	}
}

func TestIsPattern(t *testing.T) {
	around([][2]int{{0, 9}, {-1, 9}}, func(field int, x int, inside bool) {
		p := impl.Pattern{Owner: 5, Sub: 5}
		*[]*int{&p.Owner, &p.Sub}[field] = x
		if got := impl.IsPattern(p); got != inside {
			t.Errorf("IsPattern(%+v) = %v", p, got)
		}
	})
	for _, p := range allPatterns() {
		if !impl.IsPattern(p) {
			t.Errorf("%+v is no pattern", p)
		}
	}
	for _, p := range notPatterns {
		if impl.IsPattern(p) {
			t.Errorf("%+v is a pattern", p)
		}
	}
}

func TestMatchSite(t *testing.T) {
	for _, p := range allPatterns() {
		count := 0
		for _, s := range allSites() {
			got := impl.MatchSite(p, s)
			if got != matches(p, s) {
				t.Errorf("MatchSite(%+v, %+v) = %v", p, s, got)
			}
			if got {
				count++
			}
		}
		want := 1
		if p.Owner == 0 {
			want *= 9
		}
		if p.Sub == -1 {
			want *= 10
		}
		if count != want {
			t.Errorf("%+v matches %d sites, want %d", p, count, want)
		}
		for _, s := range notSites {
			if impl.MatchSite(p, s) {
				t.Errorf("%+v matches %+v", p, s)
			}
		}
	}
	for _, p := range notPatterns {
		for _, s := range append(allSites(), impl.Site(p)) {
			if impl.MatchSite(p, s) {
				t.Errorf("%+v matches %+v", p, s)
			}
		}
	}
}

// matched are the indices of the sites that a pattern matches.
func matched(p impl.Pattern) []int {
	l := []int{}
	for i, s := range allSites() {
		if matches(p, s) {
			l = append(l, i)
		}
	}
	return l
}

// TestPatternsByTheirSites compares all pairs of patterns with the sites that they match.
func TestPatternsByTheirSites(t *testing.T) {
	for _, p := range allPatterns() {
		ofP := matched(p)
		for _, q := range allPatterns() {
			ofQ := matched(q)
			both := slices.DeleteFunc(slices.Clone(ofP), func(i int) bool { return !slices.Contains(ofQ, i) })
			if got := impl.IsNarrower(p, q); got != slices.Equal(both, ofP) {
				t.Fatalf("IsNarrower(%+v, %+v) = %v", p, q, got)
			}
			m, ok := impl.MeetPatterns(p, q)
			if ok != (len(both) > 0) || !ok && m != (impl.Pattern{}) || ok && !slices.Equal(matched(m), both) {
				t.Fatalf("MeetPatterns(%+v, %+v) = %+v, %v", p, q, m, ok)
			}
			if ok && (!impl.IsPattern(m) || !impl.IsNarrower(m, p) || !impl.IsNarrower(m, q)) {
				t.Fatalf("MeetPatterns(%+v, %+v) = %+v, which is not narrower", p, q, m)
			}
		}
	}
}

func TestMeetPatterns(t *testing.T) {
	p := func(owner int, sub int) impl.Pattern { return impl.Pattern{Owner: owner, Sub: sub} }
	for _, c := range []struct {
		a, b, want impl.Pattern
		ok         bool
	}{
		{p(0, -1), p(0, -1), p(0, -1), true}, {p(0, -1), p(9, 9), p(9, 9), true}, {p(0, -1), p(0, 0), p(0, 0), true},
		{p(0, -1), p(1, -1), p(1, -1), true}, {p(0, 3), p(2, -1), p(2, 3), true}, {p(2, -1), p(0, 3), p(2, 3), true},
		{p(2, 0), p(2, -1), p(2, 0), true}, {p(2, 3), p(2, 3), p(2, 3), true}, {p(0, 3), p(0, 3), p(0, 3), true},
		{p(2, 3), p(4, 3), p(0, 0), false}, {p(2, 3), p(2, 4), p(0, 0), false}, {p(2, -1), p(4, -1), p(0, 0), false},
		{p(0, 0), p(0, 1), p(0, 0), false}, {p(2, -1), p(4, 3), p(0, 0), false}, {p(0, 3), p(4, 2), p(0, 0), false},
	} {
		if got, ok := impl.MeetPatterns(c.a, c.b); got != c.want || ok != c.ok {
			t.Errorf("MeetPatterns(%+v, %+v) = %+v, %v", c.a, c.b, got, ok)
		}
	}
}

func TestPatternsThatAreNotValid(t *testing.T) {
	for _, bad := range notPatterns {
		for _, p := range append(allPatterns(), bad) {
			if impl.IsNarrower(bad, p) || impl.IsNarrower(p, bad) {
				t.Errorf("%+v and %+v: one is narrower", bad, p)
			}
			if m, ok := impl.MeetPatterns(bad, p); ok || m != (impl.Pattern{}) {
				t.Errorf("MeetPatterns(%+v, %+v) = %+v, %v", bad, p, m, ok)
			}
			if m, ok := impl.MeetPatterns(p, bad); ok || m != (impl.Pattern{}) {
				t.Errorf("MeetPatterns(%+v, %+v) = %+v, %v", p, bad, m, ok)
			}
		}
		if got := impl.PatternText(bad); got != "" {
			t.Errorf("PatternText(%+v) = %q", bad, got)
		}
	}
}

func TestPatternText(t *testing.T) {
	owners := []string{"*", "1", "2", "3", "4", "5", "6", "7", "8", "9"}
	subs := []string{"*", "0", "1", "2", "3", "4", "5", "6", "7", "8", "9"}
	for _, p := range allPatterns() {
		if got, want := impl.PatternText(p), owners[p.Owner]+"/"+subs[p.Sub+1]; got != want {
			t.Errorf("PatternText(%+v) = %q, want %q", p, got, want)
		}
	}
}
