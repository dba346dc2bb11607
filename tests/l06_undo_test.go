package tests

import (
	"math"
	"slices"
	"testing"

	"loop.example/g03001/impl"
)

func page6() []impl.Node {
	return []impl.Node{{Parent: -1}, {Id: 2, Tag: 1, Text: 5}, {Id: 3, Parent: 2, Tag: 3, Text: 7}, {Id: 7, Parent: 2}}
}

// history6 has edits of the worlds 0, 1 and 2, some of which depend on those of another one.
func history6() []impl.Edit {
	return []impl.Edit{
		{Kind: impl.EdAdd, Node: 9, Parent: 7, By: 1},
		{Kind: impl.EdText, Node: 3, Text: 1, By: 2},
		{Kind: impl.EdAdd, Node: 11, Parent: 9, By: 2},
		{Kind: impl.EdText, Node: 3, Text: 2, By: 1},
		{Kind: impl.EdText, Node: 7, Text: 4},
	}
}

func TestEditsByAndWithoutBy(t *testing.T) {
	l := history6()
	odd := []impl.Edit{{Kind: 9, Node: -1, By: 77}, {By: -1}, {By: 77}, {}}
	cases := []struct {
		l               []impl.Edit
		by              int
		theirs, without []impl.Edit
	}{
		{l, 0, []impl.Edit{l[4]}, []impl.Edit{l[0], l[1], l[2], l[3]}},
		{l, 1, []impl.Edit{l[0], l[3]}, []impl.Edit{l[1], l[2], l[4]}},
		{l, 2, []impl.Edit{l[1], l[2]}, []impl.Edit{l[0], l[3], l[4]}},
		{l, 3, nil, l}, {l, -1, nil, l}, {l, math.MaxInt, nil, l},
		{l[:1], 1, l[:1], nil}, {nil, 1, nil, nil}, {[]impl.Edit{}, 0, nil, nil},
		{odd, 77, []impl.Edit{odd[0], odd[2]}, []impl.Edit{odd[1], odd[3]}},
		{odd, -1, []impl.Edit{odd[1]}, []impl.Edit{odd[0], odd[2], odd[3]}},
	}
	for _, c := range cases {
		if got := impl.EditsBy(c.l, c.by); !slices.Equal(got, c.theirs) {
			t.Errorf("EditsBy(%v, %d) = %v", c.l, c.by, got)
		}
		if got := impl.WithoutBy(c.l, c.by); !slices.Equal(got, c.without) {
			t.Errorf("WithoutBy(%v, %d) = %v", c.l, c.by, got)
		}
	}
}

func TestTakeBack(t *testing.T) {
	cases := []struct {
		by   int
		want string
	}{
		{0, "0<-1:0.0@0 2<0:1.5@0 3<2:3.2@1 7<2:0.0@0 9<7:0.0@1 11<9:0.0@2"},
		{1, "0<-1:0.0@0 2<0:1.5@0 3<2:3.1@2 7<2:0.4@0"},
		{2, "0<-1:0.0@0 2<0:1.5@0 3<2:3.2@1 7<2:0.4@0 9<7:0.0@1"},
		{3, "0<-1:0.0@0 2<0:1.5@0 3<2:3.2@1 7<2:0.4@0 9<7:0.0@1 11<9:0.0@2"},
		{-1, "0<-1:0.0@0 2<0:1.5@0 3<2:3.2@1 7<2:0.4@0 9<7:0.0@1 11<9:0.0@2"},
		{6, "0<-1:0.0@0 2<0:1.5@0 3<2:3.2@1 7<2:0.4@0 9<7:0.0@1 11<9:0.0@2"},
	}
	for _, c := range cases {
		if got := impl.DocumentText(impl.TakeBack(page6(), history6(), c.by)); got != c.want {
			t.Errorf("without %d: %s, want %s", c.by, got, c.want)
		}
	}
}

// TestTakeBackGivesBack has edits that apply only after those of the world 1 were taken back.
func TestTakeBackGivesBack(t *testing.T) {
	l := []impl.Edit{
		{Kind: impl.EdDrop, Node: 7, By: 1},
		{Kind: impl.EdText, Node: 7, Text: 8, By: 2},
		{Kind: impl.EdAdd, Node: 9, Parent: 2, By: 1},
		{Kind: impl.EdAdd, Node: 9, Parent: 3, By: 2},
	}
	if got := impl.DocumentText(impl.RunEdits(page6(), l)); got != "0<-1:0.0@0 2<0:1.5@0 3<2:3.7@0 9<2:0.0@1" {
		t.Error(got)
	}
	if got := impl.DocumentText(impl.TakeBack(page6(), l, 1)); got != "0<-1:0.0@0 2<0:1.5@0 3<2:3.7@0 7<2:0.8@2 9<3:0.0@2" {
		t.Error(got)
	}
	if got := impl.LostWith(page6(), l, 1); len(got) != 0 {
		t.Errorf("lost: %v", got)
	}
	if got := impl.LostWith(page6(), l, 2); len(got) != 0 {
		t.Errorf("lost: %v", got)
	}
}

func TestTakeBackOfOneAuthorAlone(t *testing.T) {
	l := []impl.Edit{
		{Kind: impl.EdAdd, Node: 30, Parent: 7, By: 1},
		{Kind: impl.EdDrop, Node: 3, By: 1},
		{Kind: impl.EdText, Node: 7, Text: 9, By: 1},
		{Kind: impl.EdMove, Node: 7, Parent: 0, By: 1},
		{Kind: impl.EdAdd, Node: 8, Parent: 7, By: 1},
	}
	if got := impl.TakeBack(page6(), l, 1); !slices.Equal(got, page6()) {
		t.Errorf("TakeBack gives %v", got)
	}
	if got := impl.TakeBack(page6(), l, 2); !slices.Equal(got, impl.RunEdits(page6(), l)) {
		t.Errorf("TakeBack of another one gives %v", got)
	}
	if got := impl.LostWith(page6(), l, 1); !slices.Equal(got, []int{8, 30}) {
		t.Errorf("lost: %v", got)
	}
	if got := impl.EditsBy(l, 1); !slices.Equal(got, l) {
		t.Errorf("EditsBy gives %v", got)
	}
	if got := impl.WithoutBy(l, 1); len(got) != 0 {
		t.Errorf("WithoutBy gives %v", got)
	}
}

// TestWhatIsTakenBackLeavesNothing goes through many histories.
func TestWhatIsTakenBackLeavesNothing(t *testing.T) {
	lost := 0
	histories(func(l []impl.Edit) {
		all := impl.RunEdits(page6(), l)
		for by := range 5 {
			others := []impl.Edit{}
			for _, e := range l {
				if e.By != by {
					others = append(others, e)
				}
			}
			got := impl.TakeBack(page6(), l, by)
			if want := impl.RunEdits(page6(), others); !slices.Equal(got, want) {
				t.Fatalf("%v without %d: %v, want %v", l, by, got, want)
			}
			if by > 0 && slices.Contains(impl.Worlds(got), by) {
				t.Fatalf("%v without %d leaves %v", l, by, got)
			}
			want := []int{}
			for id := range 10 {
				_, before := node(all, id)
				if _, after := node(got, id); before && !after {
					want = append(want, id)
				}
			}
			if ids := impl.LostWith(page6(), l, by); !slices.Equal(ids, want) {
				t.Fatalf("%v without %d loses %v, want %v", l, by, ids, want)
			}
			lost += len(want)
		}
	})
	if lost < 100 {
		t.Errorf("only %d nodes are lost in all histories", lost)
	}
}

func TestTakeBackOfNoDocument(t *testing.T) {
	for why, d := range notDocuments() {
		if got := impl.TakeBack(d, history6(), 1); !slices.Equal(got, d) {
			t.Errorf("%s: TakeBack gives %v", why, got)
		}
		if got := impl.LostWith(d, history6(), 1); len(got) != 0 {
			t.Errorf("%s: LostWith gives %v", why, got)
		}
	}
}

func TestWorlds(t *testing.T) {
	cases := []struct {
		by, want []int
	}{
		{nil, nil}, {[]int{0}, []int{0}}, {[]int{0, 0, 0}, []int{0}}, {[]int{5, 1, 5, 0, 1}, []int{0, 1, 5}},
		{[]int{3, 2, 1}, []int{1, 2, 3}}, {[]int{6, -1, 6, -1, 100}, []int{-1, 6, 100}},
		{[]int{math.MaxInt, math.MinInt, 0}, []int{math.MinInt, 0, math.MaxInt}},
	}
	for _, c := range cases {
		d := []impl.Node{}
		for _, by := range c.by {
			d = append(d, impl.Node{Id: 9, By: by})
		}
		if got := impl.Worlds(d); !slices.Equal(got, c.want) {
			t.Errorf("Worlds of %v = %v, want %v", c.by, got, c.want)
		}
	}
	if got := impl.Worlds(impl.RunEdits(page6(), history6())); !slices.Equal(got, []int{0, 1, 2}) {
		t.Errorf("Worlds = %v", got)
	}
}

func TestLostWith(t *testing.T) {
	for by, want := range map[int][]int{0: nil, 1: {9, 11}, 2: {11}, 3: nil, -1: nil} {
		if got := impl.LostWith(page6(), history6(), by); !slices.Equal(got, want) {
			t.Errorf("LostWith %d = %v, want %v", by, got, want)
		}
	}
	if got := impl.LostWith(page6(), nil, 1); len(got) != 0 {
		t.Errorf("LostWith of no edits = %v", got)
	}
}

func TestTouched(t *testing.T) {
	l := history6()
	odd := []impl.Edit{{Node: 7, By: 1}, {Node: -5, By: 1}, {Node: 1000, By: 1}, {Node: 7, By: 1}, {Node: 6, By: -1}, {Kind: 99, Node: 0, By: 1}}
	cases := []struct {
		l    []impl.Edit
		by   int
		want []int
	}{
		{l, 0, []int{7}}, {l, 1, []int{3, 9}}, {l, 2, []int{3, 11}}, {l, 3, nil}, {nil, 0, nil},
		{odd, 1, []int{-5, 0, 7, 1000}}, {odd, -1, []int{6}}, {odd, 0, nil},
	}
	for _, c := range cases {
		if got := impl.Touched(c.l, c.by); !slices.Equal(got, c.want) {
			t.Errorf("Touched(%v, %d) = %v, want %v", c.l, c.by, got, c.want)
		}
	}
}

func TestTakingBackKeepsItsArguments(t *testing.T) {
	d, check := guard(t, page6(), impl.Node{Id: 77})
	l, checkEdits := guard(t, history6(), impl.Edit{Kind: 77})
	for by := range 4 {
		scribble(impl.EditsBy(l, by), impl.Edit{Kind: 99})
		scribble(impl.WithoutBy(l, by), impl.Edit{Kind: 99})
		scribble(impl.TakeBack(d, l, by), impl.Node{Id: 99})
		scribble(impl.TakeBack(d, nil, by), impl.Node{Id: 99})
		impl.LostWith(d, l, by)
		impl.Touched(l, by)
		impl.Worlds(d)
		check("taking back")
		checkEdits("taking back")
	}
}
