package tests

import (
	"math"
	"slices"
	"testing"

	"loop.example/g03001/impl"
)

// badFlows has flows that are not valid, each for one reason.
var badFlows = []impl.Flow{
	{}, {Ext: 0, From: 1, To: 2}, {Ext: 6, From: 1, To: 2}, {Ext: -1, From: 1, To: 2}, {Ext: 1, From: 0, To: 2}, {Ext: 1, From: 10, To: 2}, {Ext: 1, From: -1, To: 2},
	{Ext: 1, From: 1, To: 0}, {Ext: 1, From: 1, To: 10}, {Ext: 1, From: 1, To: -1}, {Ext: math.MaxInt, From: 1, To: 2}, {Ext: 1, From: math.MaxInt, To: 2}, {Ext: 1, From: 1, To: math.MinInt},
}

func someFlows(roll func(n int) int, n int) []impl.Flow {
	l := []impl.Flow{}
	for range roll(n + 1) {
		f := impl.Flow{Ext: 1 + roll(2), From: 1 + roll(4), To: 1 + roll(4)}
		if roll(9) == 0 {
			f = badFlows[roll(len(badFlows))]
		}
		l = append(l, f)
	}
	return l
}

// mayFlow says by other means whether a value may be sent.
func mayFlow(l []impl.Flow, ext int, label int, to int) bool {
	owners, ok := owners19(label)
	for _, o := range owners {
		ok = ok && (o == to || 1 <= ext && ext <= 5 && slices.Contains(l, impl.Flow{Ext: ext, From: o, To: to}))
	}
	return ok && 1 <= to && to <= 9
}

func TestIsFlow(t *testing.T) {
	if impl.MaxFlows != 12 {
		t.Error(impl.MaxFlows)
	}
	around([][2]int{{1, 5}, {1, 9}, {1, 9}}, func(field int, x int, inside bool) {
		f := impl.Flow{Ext: 3, From: 4, To: 5}
		*[]*int{&f.Ext, &f.From, &f.To}[field] = x
		if got := impl.IsFlow(f); got != inside {
			t.Errorf("IsFlow(%+v) = %v", f, got)
		}
	})
	if !impl.IsFlow(impl.Flow{Ext: 1, From: 7, To: 7}) {
		t.Error("a flow to itself is not valid")
	}
	for _, f := range badFlows {
		if impl.IsFlow(f) {
			t.Errorf("%+v is valid", f)
		}
	}
}

// TestAValueFlowsWhereAllOfItsPartsMay tries all labels with some lists of flows.
func TestAValueFlowsWhereAllOfItsPartsMay(t *testing.T) {
	roll := dice(20)
	for range 40 {
		l := someFlows(roll, 14)
		for _, ext := range []int{0, 1, 2, 3, 6} {
			for x := -2; x <= 1030; x++ {
				targets := []int{}
				for to := -1; to <= 11; to++ {
					want := mayFlow(l, ext, x, to)
					if want {
						targets = append(targets, to)
					}
					if got := impl.MayFlow(l, ext, x, to); got != want {
						t.Fatalf("MayFlow(%+v, %d, %d, %d) = %v", l, ext, x, to, got)
					}
					for _, o := range impl.OwnersIn(x) {
						if want && !impl.MayFlow(l, ext, impl.LabelOf([]int{o}), to) {
							t.Fatalf("%+v: %d may flow to %d, but its part %d may not", l, x, to, o)
						}
					}
				}
				if got := impl.TargetsOf(l, ext, x); !slices.Equal(got, targets) {
					t.Fatalf("TargetsOf(%+v, %d, %d) = %v, want %v", l, ext, x, got, targets)
				}
			}
		}
	}
}

// TestFlowsBackToTheSameOwner needs no flow, and is helped by none.
func TestFlowsBackToTheSameOwner(t *testing.T) {
	for o := 1; o <= 9; o++ {
		label := powers[o]
		for _, ext := range []int{-1, 0, 1, 5, 6, math.MaxInt} {
			for _, l := range [][]impl.Flow{nil, {}, {{Ext: 1, From: o, To: o}}, badFlows} {
				if !impl.MayFlow(l, ext, label, o) {
					t.Errorf("a value of %d may not go back to it", o)
				}
				if got := impl.TargetsOf(l, ext, label); !slices.Equal(got, []int{o}) && len(l) < 2 {
					t.Errorf("a value of %d may go to %v", o, got)
				}
			}
		}
		other := 1 + o%9
		if impl.MayFlow(nil, 1, label+powers[other], o) || impl.MayFlow([]impl.Flow{{Ext: 1, From: o, To: o}, {Ext: 1, From: o, To: other}}, 1, label+powers[other], o) {
			t.Errorf("a value of %d and %d may go to %d", o, other, o)
		}
		if !impl.MayFlow([]impl.Flow{{Ext: 1, From: other, To: o}}, 1, label+powers[other], o) {
			t.Errorf("a value of %d and %d may not go to %d", o, other, o)
		}
	}
}

func TestMayFlow(t *testing.T) {
	l := []impl.Flow{{Ext: 5, From: 9, To: 1}, {Ext: 5, From: 1, To: 9}, {Ext: 4, From: 2, To: 9}, {Ext: 6, From: 3, To: 9}, {Ext: 5, From: 9, To: 10}}
	for i, c := range []struct {
		ext, label, to int
		want           bool
	}{
		{5, 512, 1, true}, {5, 2, 9, true}, {5, 514, 1, true}, {5, 514, 9, true}, {5, 514, 2, false}, {5, 4, 9, false}, {4, 4, 9, true}, {4, 512, 1, false},
		{6, 8, 9, false}, {5, 512, 10, false}, {5, 0, 10, false}, {5, 0, 0, false}, {5, 0, -1, false}, {5, 0, 1, true}, {5, 0, 9, true}, {0, 0, 9, true},
		{5, 1, 1, false}, {5, 3, 1, false}, {5, 1024, 1, false}, {5, -2, 1, false}, {5, math.MinInt, 1, false}, {5, math.MaxInt, 1, false},
		{5, 2, math.MinInt, false}, {5, 2, math.MaxInt, false}, {5, 1022, 1, false},
	} {
		if got := impl.MayFlow(l, c.ext, c.label, c.to); got != c.want {
			t.Errorf("%d: MayFlow(%d, %d, %d) = %v", i, c.ext, c.label, c.to, got)
		}
	}
	all := []impl.Flow{}
	for o := 1; o <= 9; o++ {
		all = append(all, impl.Flow{Ext: 1, From: o, To: 3})
	}
	if got := impl.TargetsOf(all, 1, 1022); !slices.Equal(got, []int{3}) {
		t.Errorf("a value of all owners may go to %v", got)
	}
	for o := range all {
		if impl.MayFlow(slices.Delete(slices.Clone(all), o, o+1), 1, 1022, 3) != (o+1 == 3) {
			t.Errorf("a value of all owners without the flow from %d", o+1)
		}
	}
}

func TestFlowsWithin(t *testing.T) {
	f, g := impl.Flow{Ext: 1, From: 1, To: 2}, impl.Flow{Ext: 1, From: 2, To: 1}
	for i, c := range []struct {
		a, b []impl.Flow
		want bool
	}{
		{nil, nil, true}, {nil, []impl.Flow{f}, true}, {[]impl.Flow{}, []impl.Flow{{}}, true}, {[]impl.Flow{f}, nil, false}, {[]impl.Flow{f}, []impl.Flow{f}, true},
		{[]impl.Flow{f}, []impl.Flow{g}, false}, {[]impl.Flow{f}, []impl.Flow{g, f}, true}, {[]impl.Flow{f, g}, []impl.Flow{g, f}, true}, {[]impl.Flow{f, g}, []impl.Flow{f}, false},
		{[]impl.Flow{g, f}, []impl.Flow{f}, false}, {[]impl.Flow{f, f}, []impl.Flow{f}, true}, {[]impl.Flow{f}, []impl.Flow{{}, f}, true},
		{[]impl.Flow{f}, []impl.Flow{{Ext: 2, From: 1, To: 2}, {Ext: 1, From: 1, To: 3}, {Ext: 1, From: 3, To: 2}}, false},
		// Also what may always go back is only within if it is there.
		{[]impl.Flow{{Ext: 1, From: 1, To: 1}}, []impl.Flow{f}, false}, {[]impl.Flow{{Ext: 1, From: 1, To: 1}}, []impl.Flow{{Ext: 1, From: 1, To: 1}}, true},
	} {
		if got := impl.FlowsWithin(c.a, c.b); got != c.want {
			t.Errorf("%d: FlowsWithin(%+v, %+v) = %v", i, c.a, c.b, got)
		}
	}
	for _, bad := range badFlows {
		if impl.FlowsWithin([]impl.Flow{bad}, badFlows) || impl.FlowsWithin([]impl.Flow{f, bad}, []impl.Flow{f, bad}) || !impl.FlowsWithin([]impl.Flow{f}, []impl.Flow{bad, f}) {
			t.Errorf("with %+v", bad)
		}
	}
}

func TestFlowsOf(t *testing.T) {
	l := append([]impl.Flow{{Ext: 2, From: 1, To: 2}, {Ext: 1, From: 3, To: 4}, {Ext: 2, From: 9, To: 9}, {Ext: 2}}, badFlows...)
	checkPicked(t, "FlowsOf", impl.FlowsOf, l, func(f impl.Flow, ext int) bool { return f.Ext == ext })
}

func TestFlowsKeepTheirArguments(t *testing.T) {
	l, check := guard(t, []impl.Flow{{Ext: 1, From: 1, To: 2}, {}}, impl.Flow{Ext: 1, From: 1, To: 3})
	// What lies behind the list is no part of it.
	if impl.MayFlow(l, 1, 2, 3) || impl.FlowsWithin([]impl.Flow{{Ext: 1, From: 1, To: 3}}, l) {
		t.Error("a flow too many")
	}
	scribble(impl.TargetsOf(l, 1, 2), -9)
	impl.FlowsWithin(l, l)
	check("the flows")
}
