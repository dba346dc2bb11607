package tests

import (
	"math"
	"slices"
	"testing"

	"loop.example/g03001/impl"
)

func step(kind int, numbers ...int) impl.Op {
	numbers = append(numbers, 0, 0, 0)
	return impl.Op{Kind: kind, A: numbers[0], B: numbers[1], C: numbers[2]}
}

// sent makes a list of three numbers for each: To, Value and Label.
func sent(numbers ...int) []impl.Sent {
	l := []impl.Sent{}
	for n := range slices.Chunk(numbers, 3) {
		l = append(l, impl.Sent{To: n[0], Value: n[1], Label: n[2]})
	}
	return l
}

// badSteps has steps that are not valid, each for one reason.
var badSteps = []impl.Op{
	{}, step(6), step(-1), step(math.MaxInt), step(math.MinInt),
	step(impl.OpRead, 6, 1), step(impl.OpRead, -1, 1), step(impl.OpRead, 0, 0), step(impl.OpRead, 0, 10), step(impl.OpRead, 0, 1, 1), step(impl.OpRead, 0, 1, -1),
	step(impl.OpConst, 6, 1), step(impl.OpConst, -1, 1), step(impl.OpConst, 0, -1), step(impl.OpConst, 0, 1000), step(impl.OpConst, 0, 1, 1),
	step(impl.OpAdd, 6, 0, 0), step(impl.OpAdd, -1, 0, 0), step(impl.OpAdd, 0, 6, 0), step(impl.OpAdd, 0, -1, 0), step(impl.OpAdd, 0, 0, 6), step(impl.OpAdd, 0, 0, -1),
	step(impl.OpChoose, 6, 0, 0), step(impl.OpChoose, -1, 0, 0), step(impl.OpChoose, 0, 6, 0), step(impl.OpChoose, 0, -1, 0), step(impl.OpChoose, 0, 0, 6), step(impl.OpChoose, 0, 0, -1),
	step(impl.OpSend, 6, 1), step(impl.OpSend, -1, 1), step(impl.OpSend, 0, 0), step(impl.OpSend, 0, 10), step(impl.OpSend, 0, 1, 1), step(impl.OpSend, 0, 1, -1),
}

// notPrograms has lists of steps that are no programs.
func notPrograms() [][]impl.Op {
	l := [][]impl.Op{slices.Repeat([]impl.Op{step(impl.OpSend, 0, 1)}, 17), make([]impl.Op, 17)}
	for _, bad := range badSteps {
		l = append(l, []impl.Op{bad}, []impl.Op{step(impl.OpRead, 0, 1), step(impl.OpSend, 0, 2), bad}, []impl.Op{bad, step(impl.OpRead, 0, 1), step(impl.OpSend, 0, 2)})
	}
	return l
}

// someSteps returns a program.
func someSteps(roll func(n int) int) []impl.Op {
	l := []impl.Op{}
	for range roll(17) {
		kind, a := 1+roll(5), roll(6)
		switch kind {
		case impl.OpConst:
			l = append(l, step(kind, a, roll(1000)))
		case impl.OpAdd, impl.OpChoose:
			l = append(l, step(kind, a, roll(6), roll(6)))
		default:
			l = append(l, step(kind, a, 1+roll(4)))
		}
	}
	return l
}

// trace21 says by other means what a program sends, may it flow or not, and what the registers depend on; the labels are sets of owners.
func trace21(l []impl.Op, values []int) ([]impl.Sent, []int) {
	var number [6]int
	var owners [6][10]bool
	union := func(sets ...[10]bool) [10]bool {
		var all [10]bool
		for _, set := range sets {
			for o, in := range set {
				all[o] = all[o] || in
			}
		}
		return all
	}
	label := func(set [10]bool) int {
		sum := 0
		for o, in := range set {
			if in {
				sum += powers[o]
			}
		}
		return sum
	}
	sent := []impl.Sent{}
	for _, o := range l {
		switch o.Kind {
		case impl.OpRead:
			number[o.A], owners[o.A] = 0, [10]bool{}
			owners[o.A][o.B] = true
			if o.B <= len(values) && values[o.B-1] >= 0 && values[o.B-1] <= 999 {
				number[o.A] = values[o.B-1]
			}
		case impl.OpConst:
			number[o.A], owners[o.A] = o.B, [10]bool{}
		case impl.OpAdd:
			number[o.A], owners[o.A] = (number[o.B]+number[o.C])%1000, union(owners[o.B], owners[o.C])
		case impl.OpChoose:
			set := union(owners[o.A], owners[o.B], owners[o.C])
			if number[o.B]%2 == 0 {
				number[o.A] = number[o.C]
			}
			owners[o.A] = set
		case impl.OpSend:
			sent = append(sent, impl.Sent{To: o.B, Value: number[o.A], Label: label(owners[o.A])})
		}
	}
	labels := []int{}
	for _, set := range owners {
		labels = append(labels, label(set))
	}
	return sent, labels
}

func TestProgramConstants(t *testing.T) {
	got := []int{impl.OpRead, impl.OpConst, impl.OpAdd, impl.OpChoose, impl.OpSend, impl.MaxOps, impl.Registers}
	if !slices.Equal(got, []int{1, 2, 3, 4, 5, 16, 6}) {
		t.Error(got)
	}
}

func TestAreOps(t *testing.T) {
	registers := [2]int{0, 5}
	for kind, ranges := range map[int][][2]int{
		impl.OpRead: {registers, {1, 9}, {0, 0}}, impl.OpConst: {registers, {0, 999}, {0, 0}}, impl.OpSend: {registers, {1, 9}, {0, 0}},
		impl.OpAdd: {registers, registers, registers}, impl.OpChoose: {registers, registers, registers},
	} {
		around(ranges, func(field int, x int, inside bool) {
			o := step(kind, 3, 3)
			*[]*int{&o.A, &o.B, &o.C}[field] = x
			if got := impl.AreOps([]impl.Op{o}); got != inside {
				t.Errorf("AreOps of %+v: %v", o, got)
			}
			if got := impl.AreOps([]impl.Op{step(impl.OpRead, 5, 9), o}); got != inside {
				t.Errorf("AreOps of %+v as the last one: %v", o, got)
			}
		})
	}
	for n := range 20 {
		if got := impl.AreOps(slices.Repeat([]impl.Op{step(impl.OpConst, 1, 1)}, n)); got != (n <= 16) {
			t.Errorf("AreOps of %d steps: %v", n, got)
		}
	}
	for _, l := range notPrograms() {
		if impl.AreOps(l) {
			t.Errorf("%+v is a program", l)
		}
	}
	if !impl.AreOps(nil) || !impl.AreOps([]impl.Op{}) {
		t.Error("no steps are no program")
	}
}

// TestNothingIsSentThatMayNotFlow runs many programs with some flows.
func TestNothingIsSentThatMayNotFlow(t *testing.T) {
	roll := dice(21)
	for range 5000 {
		l := someSteps(roll)
		values := []int{}
		for range roll(11) {
			values = append(values, []int{roll(1000), roll(1000), roll(1000), 999, 1000, -1}[roll(6)])
		}
		flows, ext := someFlows(roll, 8), 1+roll(3)
		all, labels := trace21(l, values)
		want, needed := []impl.Sent{}, []impl.Flow{}
		for _, s := range all {
			if mayFlow(flows, ext, s.Label, s.To) {
				want = append(want, s)
			}
			owners, _ := owners19(s.Label)
			for _, o := range owners {
				if f := (impl.Flow{Ext: ext, From: o, To: s.To}); o != s.To && !slices.Contains(needed, f) {
					needed = append(needed, f)
				}
			}
		}
		got := impl.RunOps(l, values, flows, ext)
		if !slices.Equal(got, want) {
			t.Fatalf("RunOps(%+v, %v, %+v, %d) = %+v, want %+v", l, values, flows, ext, got, want)
		}
		for _, s := range got {
			if !impl.MayFlow(flows, ext, s.Label, s.To) {
				t.Fatalf("RunOps(%+v, %v, %+v, %d) sends %+v", l, values, flows, ext, s)
			}
		}
		if got := impl.LabelsAfter(l); !slices.Equal(got, labels) {
			t.Fatalf("LabelsAfter(%+v) = %v, want %v", l, got, labels)
		}
		if got := impl.NeedsFlows(l, ext); !slices.Equal(got, needed) {
			t.Fatalf("NeedsFlows(%+v, %d) = %+v, want %+v", l, ext, got, needed)
		}
		// With what it needs nothing is left out, and without one of these something is.
		if got := impl.RunOps(l, values, needed, ext); !slices.Equal(got, all) {
			t.Fatalf("%+v with the flows it needs sends %+v, want %+v", l, got, all)
		}
		for i := range needed {
			if got := impl.RunOps(l, values, slices.Delete(slices.Clone(needed), i, i+1), ext); len(got) >= len(all) {
				t.Fatalf("%+v does not need %+v", l, needed[i])
			}
		}
	}
}

func TestRunOps(t *testing.T) {
	read, set, add, choose, send := impl.OpRead, impl.OpConst, impl.OpAdd, impl.OpChoose, impl.OpSend
	for i, c := range []struct {
		l      []impl.Op
		values []int
		want   []impl.Sent
		labels []int
	}{
		{nil, []int{5}, nil, []int{0, 0, 0, 0, 0, 0}},
		{[]impl.Op{step(send, 5, 9)}, []int{5}, []impl.Sent{{To: 9}}, []int{0, 0, 0, 0, 0, 0}},
		{[]impl.Op{step(read, 5, 9), step(send, 5, 9)}, []int{1, 2, 3, 4, 5, 6, 7, 8, 999, 10}, sent(9, 999, 512), []int{0, 0, 0, 0, 0, 512}},
		{[]impl.Op{step(read, 0, 9), step(send, 0, 9)}, []int{1, 2, 3, 4, 5, 6, 7, 8}, sent(9, 0, 512), []int{512, 0, 0, 0, 0, 0}},
		{[]impl.Op{step(read, 0, 1), step(send, 0, 1)}, []int{-1}, sent(1, 0, 2), []int{2, 0, 0, 0, 0, 0}},
		{[]impl.Op{step(read, 0, 1), step(send, 0, 1)}, []int{1000}, sent(1, 0, 2), []int{2, 0, 0, 0, 0, 0}},
		// Reading again and a constant forget what was there.
		{[]impl.Op{step(read, 0, 1), step(read, 0, 2), step(send, 0, 2), step(set, 0, 999), step(send, 0, 3)}, []int{5, 6}, sent(2, 6, 4, 3, 999, 0), []int{0, 0, 0, 0, 0, 0}},
		// A sum begins again at 1000, and a register may be added to itself.
		{[]impl.Op{step(set, 0, 999), step(set, 1, 1), step(add, 2, 0, 1), step(send, 2, 1), step(add, 0, 0, 0), step(send, 0, 1)}, nil, sent(1, 0, 0, 1, 998, 0), []int{0, 0, 0, 0, 0, 0}},
		{[]impl.Op{step(read, 0, 1), step(set, 1, 1), step(add, 1, 1, 0), step(send, 1, 1)}, []int{998}, sent(1, 999, 2), []int{2, 2, 0, 0, 0, 0}},
		// A choice that leaves the register joins the labels too.
		{[]impl.Op{step(set, 0, 50), step(set, 1, 3), step(read, 2, 1), step(choose, 0, 1, 2), step(send, 0, 1)}, []int{7}, sent(1, 50, 2), []int{2, 0, 2, 0, 0, 0}},
		{[]impl.Op{step(set, 0, 50), step(set, 2, 9), step(read, 1, 1), step(choose, 0, 1, 2), step(send, 0, 1)}, []int{8}, sent(1, 9, 2), []int{2, 2, 0, 0, 0, 0}},
		{[]impl.Op{step(read, 0, 1), step(set, 2, 9), step(choose, 0, 1, 2), step(send, 0, 1)}, []int{8}, sent(1, 9, 2), []int{2, 0, 0, 0, 0, 0}},
		// A choice by the register itself.
		{[]impl.Op{step(read, 0, 1), step(set, 2, 9), step(choose, 0, 0, 2), step(send, 0, 1)}, []int{8}, sent(1, 9, 2), []int{2, 0, 0, 0, 0, 0}},
		{[]impl.Op{step(read, 0, 1), step(set, 2, 9), step(choose, 0, 0, 2), step(send, 0, 1)}, []int{7}, sent(1, 7, 2), []int{2, 0, 0, 0, 0, 0}},
		{[]impl.Op{step(read, 0, 1), step(read, 1, 2), step(add, 2, 0, 1), step(send, 2, 1), step(send, 2, 2), step(send, 2, 3), step(send, 0, 1)}, []int{5, 6}, sent(1, 5, 2), []int{2, 4, 6, 0, 0, 0}},
	} {
		if got := impl.RunOps(c.l, c.values, nil, 1); !slices.Equal(got, c.want) {
			t.Errorf("%d: RunOps gives %+v", i, got)
		}
		if got := impl.LabelsAfter(c.l); !slices.Equal(got, c.labels) {
			t.Errorf("%d: LabelsAfter gives %v", i, got)
		}
	}
}

// TestProgramsThatSendWhatTheyNeverRead need no flows and depend on nothing.
func TestProgramsThatSendWhatTheyNeverRead(t *testing.T) {
	l := []impl.Op{step(impl.OpConst, 0, 7), step(impl.OpRead, 1, 3), step(impl.OpAdd, 2, 0, 5), step(impl.OpChoose, 3, 4, 0)}
	want := []impl.Sent{}
	for to := 1; to <= 9; to++ {
		l = append(l, step(impl.OpSend, 2+to%2, to))
		want = append(want, impl.Sent{To: to, Value: 7})
	}
	for _, ext := range []int{0, 1, 5, 6} {
		if got := impl.RunOps(l, []int{1, 2, 3}, nil, ext); !slices.Equal(got, want) {
			t.Errorf("%+v", got)
		}
		if got := impl.NeedsFlows(l, ext); len(got) != 0 {
			t.Errorf("it needs %+v", got)
		}
	}
	if got := impl.LabelsAfter(l); !slices.Equal(got, []int{0, 8, 0, 0, 0, 0}) {
		t.Errorf("the labels are %v", got)
	}
}

func TestNeedsFlows(t *testing.T) {
	l := []impl.Op{
		step(impl.OpRead, 0, 9), step(impl.OpRead, 1, 2), step(impl.OpRead, 2, 5), step(impl.OpAdd, 0, 0, 1), step(impl.OpAdd, 0, 0, 2),
		step(impl.OpSend, 0, 5), step(impl.OpSend, 1, 5), step(impl.OpSend, 2, 5), step(impl.OpSend, 2, 1), step(impl.OpSend, 0, 5), step(impl.OpSend, 0, 1),
	}
	for _, ext := range []int{1, 5, 0, 6, -1} {
		want := []impl.Flow{{Ext: ext, From: 2, To: 5}, {Ext: ext, From: 9, To: 5}, {Ext: ext, From: 5, To: 1}, {Ext: ext, From: 2, To: 1}, {Ext: ext, From: 9, To: 1}}
		if got := impl.NeedsFlows(l, ext); !slices.Equal(got, want) {
			t.Errorf("NeedsFlows for %d: %+v", ext, got)
		}
	}
}

func TestListsThatAreNoPrograms(t *testing.T) {
	for _, l := range notPrograms() {
		flows := []impl.Flow{{Ext: 1, From: 1, To: 2}}
		if got := impl.RunOps(l, []int{5}, flows, 1); len(got) != 0 {
			t.Errorf("RunOps(%+v) = %+v", l, got)
		}
		if got := impl.LabelsAfter(l); len(got) != 0 {
			t.Errorf("LabelsAfter(%+v) = %v", l, got)
		}
		if got := impl.NeedsFlows(l, 1); len(got) != 0 {
			t.Errorf("NeedsFlows(%+v) = %+v", l, got)
		}
	}
	full := slices.Repeat([]impl.Op{step(impl.OpSend, 0, 1)}, 16)
	if got := impl.RunOps(full, nil, nil, 1); len(got) != 16 {
		t.Errorf("16 steps send %+v", got)
	}
}

func TestEqualSent(t *testing.T) {
	s := impl.Sent{To: 1, Value: 2, Label: 4}
	checkEqual(t, "EqualSent", impl.EqualSent, [][]impl.Sent{{}, {s}, {{}}, {s, s}, {s, {}}, {{}, s}, sent(2, 2, 4), sent(1, 3, 4), sent(1, 2, 6)})
}

func TestProgramsKeepTheirArguments(t *testing.T) {
	l, checkSteps := guard(t, []impl.Op{step(impl.OpRead, 0, 1), step(impl.OpRead, 1, 3), step(impl.OpSend, 0, 2), step(impl.OpSend, 1, 3)}, step(impl.OpSend, 0, 1))
	values, checkValues := guard(t, []int{5, 1000}, 7)
	flows, checkFlows := guard(t, []impl.Flow{{Ext: 1, From: 1, To: 2}, {}}, impl.Flow{Ext: 1, From: 3, To: 2})
	for range 2 {
		got := impl.RunOps(l, values, flows, 1)
		// What lies behind the values is no part of them.
		if !slices.Equal(got, sent(2, 5, 2, 3, 0, 8)) {
			t.Errorf("RunOps gives %+v", got)
		}
		scribble(got, impl.Sent{To: -9})
		scribble(impl.LabelsAfter(l), -9)
		scribble(impl.NeedsFlows(l, 1), impl.Flow{Ext: -9})
	}
	impl.AreOps(l)
	checkSteps("the programs")
	checkValues("the programs")
	checkFlows("the programs")
}
