package tests

import (
	"math"
	"slices"
	"testing"

	"loop.example/g03001/impl"
)

// own17 has n rules of an extension, which differ in their Pattern.
func own17(ext int, n int) []impl.Rule {
	l := []impl.Rule{}
	for i := range n {
		l = append(l, withRule(func(r *impl.Rule) { r.Ext, r.Pattern = ext, impl.Pattern{Owner: i / 10, Sub: i % 10} }))
	}
	return l
}

// shares17 has for each extension from 1 to 5 this number of rules.
func shares17(n ...int) []impl.Rule {
	l := []impl.Rule{}
	for i, own := range n {
		l = append(l, own17(1+i, own)...)
	}
	return l
}

// new17 is a rule of an extension that none of the lists has.
func new17(ext int) impl.Rule {
	return withRule(func(r *impl.Rule) { r.Ext, r.Prio = ext, 9 })
}

// fair17 says by other means whether a list is fair.
func fair17(l []impl.Rule) bool {
	counts := map[int]int{}
	for _, r := range l {
		counts[r.Ext]++
		if !impl.IsRule(r) || counts[r.Ext] > 6 {
			return false
		}
	}
	return len(l) <= 20
}

var lists17 = [][]impl.Rule{
	nil, shares17(1), shares17(5), shares17(6), shares17(7), shares17(6, 6, 6, 1), shares17(6, 6, 6, 2), shares17(6, 6, 6, 3), shares17(4, 4, 4, 4, 4),
	shares17(4, 4, 4, 4, 3), shares17(5, 5, 5, 5), shares17(5, 5, 5, 4), shares17(6, 6, 6, 6, 6), shares17(0, 0, 0, 0, 6), shares17(0, 0, 0, 0, 7), shares17(20), shares17(0, 19),
	badRules(), append(badRules(), shares17(1, 1)...), append(shares17(5, 5, 5, 4), badRules()[1]),
}

// TestNobodyGetsMoreRulesThanTheirShare adds a rule of each extension to lists that are full, nearly full, or not fair.
func TestNobodyGetsMoreRulesThanTheirShare(t *testing.T) {
	if impl.MaxOwn != 6 {
		t.Error(impl.MaxOwn)
	}
	for i, l := range lists17 {
		if got := impl.IsFair(l); got != fair17(l) {
			t.Errorf("%d: IsFair gives %v", i, got)
		}
		for ext := -1; ext <= 7; ext++ {
			own := 0
			for _, r := range l {
				if r.Ext == ext {
					own++
				}
			}
			room := max(0, min(6-own, 20-len(l)))
			if ext < 1 || ext > 5 {
				room = 0
			}
			if got := impl.RoomFor(l, ext); got != room {
				t.Errorf("%d: RoomFor %d: %d, want %d", i, ext, got, room)
			}
			if got := impl.CanAddRule(l, new17(ext)); got != (room > 0) {
				t.Errorf("%d: CanAddRule of %d: %v", i, ext, got)
			}
			want := slices.Clone(l)
			if room > 0 {
				want = append(want, new17(ext))
			}
			if got, ok := impl.AddRule(l, new17(ext)); ok != (room > 0) || !slices.Equal(got, want) {
				t.Errorf("%d: AddRule of %d: %d rules, %v", i, ext, len(got), ok)
			}
		}
		for _, r := range l {
			if impl.CanAddRule(l, r) {
				t.Errorf("%d: %+v again", i, r)
			}
		}
		for _, r := range badRules() {
			if got, ok := impl.AddRule(l, r); ok || !slices.Equal(got, l) || impl.CanAddRule(l, r) {
				t.Errorf("%d: %+v, which is not valid, is added", i, r)
			}
		}
	}
	for _, ext := range []int{math.MinInt, math.MaxInt} {
		if got := impl.RoomFor(nil, ext); got != 0 {
			t.Errorf("RoomFor %d: %d", ext, got)
		}
	}
}

// TestRoomIsWhatCanBeAdded adds rules as long as there is room.
func TestRoomIsWhatCanBeAdded(t *testing.T) {
	for i, l := range lists17 {
		for ext := 1; ext <= 5; ext++ {
			room := impl.RoomFor(l, ext)
			now := l
			added := 0
			for sub := range 10 {
				r := withRule(func(r *impl.Rule) { r.Ext, r.Prio, r.Pattern.Sub = ext, 8, sub })
				after, ok := impl.AddRule(now, r)
				if ok {
					added++
				}
				if fair17(now) && !impl.IsFair(after) {
					t.Errorf("%d: a fair list becomes %+v", i, after)
				}
				now = after
			}
			if added != room {
				t.Errorf("%d: room for %d of %d, and %d are added", i, room, ext, added)
			}
		}
	}
}

// TestRulesThatDifferInOneField adds to a list a rule that is almost there.
func TestRulesThatDifferInOneField(t *testing.T) {
	l := []impl.Rule{{}, rule13, sendTo(2, 2)}
	for i, r := range []impl.Rule{
		withRule(func(r *impl.Rule) { r.Ext = 1 }), withRule(func(r *impl.Rule) { r.Prio = 1 }), withRule(func(r *impl.Rule) { r.Pattern.Owner = 1 }),
		withRule(func(r *impl.Rule) { r.Pattern.Sub = 1 }), withRule(func(r *impl.Rule) { r.Sort = 1 }), withRule(func(r *impl.Rule) { r.Action = 1 }),
		sendTo(2, 1), sendTo(1, 2),
	} {
		if got, ok := impl.AddRule(l, r); !ok || !slices.Equal(got, append(slices.Clone(l), r)) {
			t.Errorf("%d: %+v, %v", i, got, ok)
		}
	}
}

func TestIsFair(t *testing.T) {
	for i, r := range badRules() {
		if impl.IsFair([]impl.Rule{r}) || impl.IsFair([]impl.Rule{rule13, r}) || impl.IsFair([]impl.Rule{r, rule13}) {
			t.Errorf("%d: %+v is fair", i, r)
		}
	}
	// The same rule twice is fair: it only cannot be added.
	if !impl.IsFair([]impl.Rule{rule13, rule13}) || !impl.IsFair(nil) || !impl.IsFair(shares17(6, 6, 6, 2)) || impl.IsFair(shares17(6, 6, 6, 3)) {
		t.Error("fair")
	}
}

func TestDropRules(t *testing.T) {
	l := append(shares17(2, 1, 0, 3), badRules()...)
	l = append(l, rule13, new17(4))
	checkPicked(t, "DropRules", impl.DropRules, l, func(r impl.Rule, ext int) bool { return r.Ext != ext })
	for ext := -1; ext <= 7; ext++ {
		if left := impl.RulesOf(impl.DropRules(l, ext), ext); len(left) != 0 {
			t.Errorf("DropRules of %d leaves %+v", ext, left)
		}
	}
	if len(impl.DropRules(own17(2, 6), 2)) != 0 {
		t.Error("something is left")
	}
	full := shares17(6, 6, 6, 2)
	if got := impl.RoomFor(impl.DropRules(full, 1), 5); got != 6 {
		t.Errorf("room for %d", got)
	}
}

func TestQuotasKeepTheirArguments(t *testing.T) {
	l, check := guard(t, shares17(6, 1), rule13)
	for _, r := range []impl.Rule{rule13, new17(1), new17(2), {}} {
		got, _ := impl.AddRule(l, r)
		scribble(got, impl.Rule{Ext: -9})
		check("AddRule")
	}
	for ext := range 4 {
		impl.RoomFor(l, ext)
	}
	impl.IsFair(l)
	check("RoomFor and IsFair")
}
