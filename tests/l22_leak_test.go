package tests

import (
	"math"
	"slices"
	"testing"

	"loop.example/g03001/impl"
)

// has19 reports whether a label has an owner.
func has19(label int, owner int) bool {
	owners, _ := owners19(label)
	return slices.Contains(owners, owner)
}

func TestChangeValue(t *testing.T) {
	for i, c := range []struct {
		values       []int
		owner, value int
		want         []int
	}{
		{nil, 1, 5, []int{5, 0, 0, 0, 0, 0, 0, 0, 0}}, {nil, 9, 999, []int{0, 0, 0, 0, 0, 0, 0, 0, 999}}, {[]int{}, 0, 5, []int{0, 0, 0, 0, 0, 0, 0, 0, 0}},
		{[]int{1, 2, 3}, 2, 0, []int{1, 0, 3, 0, 0, 0, 0, 0, 0}}, {[]int{1, 2, 3}, 4, 8, []int{1, 2, 3, 8, 0, 0, 0, 0, 0}},
		{[]int{1, 2, 3, 4, 5, 6, 7, 8, 9}, 9, 1, []int{1, 2, 3, 4, 5, 6, 7, 8, 1}}, {[]int{1, 2, 3, 4, 5, 6, 7, 8, 9, 10, 11}, 10, 1, []int{1, 2, 3, 4, 5, 6, 7, 8, 9}},
		{[]int{1, 2}, 0, 5, []int{1, 2, 0, 0, 0, 0, 0, 0, 0}}, {[]int{1, 2}, -1, 5, []int{1, 2, 0, 0, 0, 0, 0, 0, 0}}, {[]int{1, 2}, 10, 5, []int{1, 2, 0, 0, 0, 0, 0, 0, 0}},
		{[]int{1, 2}, 1, -1, []int{1, 2, 0, 0, 0, 0, 0, 0, 0}}, {[]int{1, 2}, 1, 1000, []int{1, 2, 0, 0, 0, 0, 0, 0, 0}},
		{[]int{1, 2}, math.MinInt, 5, []int{1, 2, 0, 0, 0, 0, 0, 0, 0}}, {[]int{1, 2}, math.MaxInt, 5, []int{1, 2, 0, 0, 0, 0, 0, 0, 0}},
		{[]int{1, 2}, 2, math.MinInt, []int{1, 2, 0, 0, 0, 0, 0, 0, 0}}, {[]int{1, 2}, 2, math.MaxInt, []int{1, 2, 0, 0, 0, 0, 0, 0, 0}},
	} {
		values, check := guard(t, c.values, 7)
		got := impl.ChangeValue(values, c.owner, c.value)
		if !slices.Equal(got, c.want) {
			t.Errorf("%d: ChangeValue(%v, %d, %d) = %v", i, c.values, c.owner, c.value, got)
		}
		scribble(got, -9)
		check("ChangeValue")
	}
}

// TestValuesOfAThousand has values at the limits, each of them alone and as the one that is changed.
func TestValuesOfAThousand(t *testing.T) {
	for _, x := range []int{math.MinInt, -1000, -1, 0, 1, 998, 999, 1000, 1001, math.MaxInt} {
		kept := x
		if x < 0 || x > 999 {
			kept = 0
		}
		if got := impl.ChangeValue([]int{x, 7, x}, 2, 8); !slices.Equal(got, []int{kept, 8, kept, 0, 0, 0, 0, 0, 0}) {
			t.Errorf("values of %d: %v", x, got)
		}
		want := []int{5, 7, 5, 0, 0, 0, 0, 0, 0}
		if x >= 0 && x <= 999 {
			want[1] = x
		}
		if got := impl.ChangeValue([]int{5, 7, 5}, 2, x); !slices.Equal(got, want) {
			t.Errorf("the value %d: %v", x, got)
		}
		// A value that is not in the range is also replaced.
		if got := impl.ChangeValue([]int{x}, 1, 3); got[0] != 3 {
			t.Errorf("instead of %d: %v", x, got)
		}
	}
}

// TestWhatIsSentDependsOnASiteOnlyIfItsLabelSaysSo runs many programs with two values of one owner.
func TestWhatIsSentDependsOnASiteOnlyIfItsLabelSaysSo(t *testing.T) {
	roll := dice(22)
	differ := 0
	for range 5000 {
		l, flows, ext := someSteps(roll), someFlows(roll, 10), 1+roll(3)
		values := []int{roll(1000), roll(1000), roll(1001), roll(1000)}
		sent := impl.RunOps(l, values, flows, ext)
		for owner := 1; owner <= 5; owner++ {
			other := impl.RunOps(l, impl.ChangeValue(values, owner, roll(1000)), flows, ext)
			if !impl.SameSent(sent, other, owner) {
				t.Fatalf("%+v with %v: %+v and %+v", l, values, sent, other)
			}
			if !slices.Equal(sent, other) {
				differ++
				if !impl.Depends(l, flows, ext, owner) {
					t.Fatalf("%+v does not depend on %d, and sends %+v and %+v", l, owner, sent, other)
				}
			}
		}
	}
	if differ < 100 {
		t.Errorf("only %d runs differ", differ)
	}
}

// TestLeaks compares with what is sent without values.
func TestLeaks(t *testing.T) {
	roll := dice(220)
	for range 3000 {
		l, flows, ext := someSteps(roll), someFlows(roll, 8), roll(4)
		if roll(20) == 0 {
			l = notPrograms()[roll(len(notPrograms()))]
		}
		sent := impl.RunOps(l, nil, flows, ext)
		for owner := -1; owner <= 11; owner++ {
			targets := []int{}
			for to := 1; to <= 9; to++ {
				if slices.ContainsFunc(sent, func(s impl.Sent) bool { return s.To == to && has19(s.Label, owner) }) {
					targets = append(targets, to)
				}
			}
			if got := impl.LeakTo(l, flows, ext, owner); !slices.Equal(got, targets) {
				t.Fatalf("LeakTo(%+v, %+v, %d, %d) = %v, want %v", l, flows, ext, owner, got, targets)
			}
			if got := impl.Depends(l, flows, ext, owner); got != (len(targets) > 0) {
				t.Fatalf("Depends(%+v, %+v, %d, %d) = %v", l, flows, ext, owner, got)
			}
		}
		tight := impl.AreOps(l)
		for _, f := range impl.NeedsFlows(l, ext) {
			tight = tight && impl.IsFlow(f) && slices.Contains(flows, f)
		}
		if got := impl.IsTightFor(l, flows, ext); got != tight {
			t.Fatalf("IsTightFor(%+v, %+v, %d) = %v", l, flows, ext, got)
		}
	}
	for _, owner := range []int{math.MinInt, -64, 64, math.MaxInt} {
		l := []impl.Op{step(impl.OpRead, 0, 1), step(impl.OpSend, 0, 1)}
		if impl.Depends(l, nil, 1, owner) || len(impl.LeakTo(l, nil, 1, owner)) != 0 || !impl.SameSent(nil, nil, owner) {
			t.Errorf("something depends on %d", owner)
		}
	}
}

func TestLeakToInAscendingOrder(t *testing.T) {
	l := []impl.Op{step(impl.OpRead, 0, 3), step(impl.OpSend, 0, 9), step(impl.OpSend, 0, 1), step(impl.OpSend, 0, 9), step(impl.OpSend, 1, 5), step(impl.OpSend, 0, 4), step(impl.OpSend, 0, 3)}
	flows := []impl.Flow{{Ext: 1, From: 3, To: 9}, {Ext: 1, From: 3, To: 1}, {Ext: 2, From: 3, To: 4}}
	if got := impl.LeakTo(l, flows, 1, 3); !slices.Equal(got, []int{1, 3, 9}) {
		t.Errorf("LeakTo gives %v", got)
	}
	if impl.IsTightFor(l, flows, 1) || impl.IsTightFor(l, flows, 2) || !impl.IsTightFor(l[:4], flows, 1) {
		t.Error("tight")
	}
}

func TestSameSent(t *testing.T) {
	base := []impl.Sent{{To: 1, Value: 5, Label: 2}, {To: 2, Value: 6, Label: 12}, {To: 3, Value: 7, Label: 0}}
	with := func(i int, change func(s *impl.Sent)) []impl.Sent {
		l := slices.Clone(base)
		change(&l[i])
		return l
	}
	for i, c := range []struct {
		b    []impl.Sent
		same []int
	}{
		{base, []int{1, 2, 3, 4}},
		{with(0, func(s *impl.Sent) { s.Value = 9 }), []int{1}},
		{with(1, func(s *impl.Sent) { s.Value = 9 }), []int{2, 3}},
		{with(2, func(s *impl.Sent) { s.Value = 9 }), nil},
		{with(0, func(s *impl.Sent) { s.To = 9 }), nil},
		{with(1, func(s *impl.Sent) { s.To = 9 }), nil},
		{with(2, func(s *impl.Sent) { s.To = 9 }), nil},
		{with(0, func(s *impl.Sent) { s.Label = 6 }), nil},
		{with(0, func(s *impl.Sent) { s.Label = 0 }), nil},
		{with(1, func(s *impl.Sent) { s.Label = 14 }), nil},
		{with(2, func(s *impl.Sent) { s.Label = 2 }), nil},
		{base[:2], nil}, {base[1:], nil}, {nil, nil}, {append(slices.Clone(base), base[0]), nil},
		{[]impl.Sent{base[1], base[0], base[2]}, nil},
	} {
		for owner := 1; owner <= 4; owner++ {
			want := slices.Contains(c.same, owner)
			if impl.SameSent(base, c.b, owner) != want || impl.SameSent(c.b, base, owner) != want {
				t.Errorf("%d: SameSent(%+v, %+v, %d) is not %v", i, base, c.b, owner, want)
			}
		}
		for _, owner := range []int{-1, 0, 10, 11, math.MinInt, math.MaxInt} {
			if got := impl.SameSent(base, c.b, owner); got != slices.Equal(base, c.b) {
				t.Errorf("%d: for %d, which is no owner: %v", i, owner, got)
			}
		}
	}
	// A number that is no label has no owners, so the values must be the same.
	for _, label := range []int{3, 1026, -2} {
		a, b := []impl.Sent{{To: 1, Value: 5, Label: label}}, []impl.Sent{{To: 1, Value: 6, Label: label}}
		if impl.SameSent(a, b, 1) || !impl.SameSent(a, slices.Clone(a), 1) {
			t.Errorf("the label %d", label)
		}
	}
	if !impl.SameSent(nil, []impl.Sent{}, 1) {
		t.Error("nil and empty are not the same")
	}
}

func TestLeaksKeepTheirArguments(t *testing.T) {
	a, checkA := guard(t, []impl.Sent{{To: 1, Value: 5, Label: 2}, {To: 2, Value: 6, Label: 4}}, impl.Sent{To: 77})
	b, checkB := guard(t, []impl.Sent{{To: 1, Value: 7, Label: 2}, {To: 2, Value: 6, Label: 4}}, impl.Sent{To: 78})
	if !impl.SameSent(a, b, 1) {
		t.Error("not the same")
	}
	checkA("SameSent")
	checkB("SameSent")
	l, checkSteps := guard(t, []impl.Op{step(impl.OpRead, 0, 1), step(impl.OpSend, 0, 2)}, step(impl.OpSend, 0, 1))
	flows, checkFlows := guard(t, []impl.Flow{{Ext: 1, From: 1, To: 2}}, impl.Flow{Ext: 2})
	impl.Depends(l, flows, 1, 1)
	scribble(impl.LeakTo(l, flows, 1, 1), -9)
	impl.IsTightFor(l, flows, 1)
	checkSteps("the leaks")
	checkFlows("the leaks")
}
