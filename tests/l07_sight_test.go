package tests

import (
	"math"
	"slices"
	"testing"

	"loop.example/g03001/impl"
)

// page7 has the hidden tag 3 at the node 3 of the page and at the node 5 of the world 1.
func page7() []impl.Node {
	return []impl.Node{{Parent: -1}, {Id: 2, Tag: 1}, {Id: 3, Parent: 2, Tag: 3}, {Id: 4, Parent: 3, By: 1}, {Id: 5, Parent: 2, Tag: 3, By: 1}, {Id: 6, Parent: 5, By: 2}}
}

// ownPage7 has a root of the world 2 with the tag 9.
func ownPage7() []impl.Node {
	return []impl.Node{{Parent: -1, Tag: 9, By: 2}, {Id: 2, By: 1}, {Id: 3, Parent: 2, By: 2}}
}

var sights = [][]int{nil, {}, {0}, {1}, {2}, {1, 2}, {2, 2, 1, 0}, {3, 7}, {-1, 10, math.MinInt, math.MaxInt}}

func idsOf(d []impl.Node) []int {
	ids := []int{}
	for _, n := range d {
		ids = append(ids, n.Id)
	}
	return ids
}

// sees says by other means which nodes of a document a world sees.
func sees(d []impl.Node, hidden []int, by int, id int) bool {
	up := lineage(d, id)
	return len(up) > 0 && !slices.ContainsFunc(up, func(n impl.Node) bool { return n.By != by && slices.Contains(hidden, n.Tag) })
}

func TestSeenBy(t *testing.T) {
	cases := []struct {
		d      []impl.Node
		hidden []int
		by     int
		want   []int
	}{
		{page7(), []int{3}, 0, []int{0, 2, 3, 4}},
		{page7(), []int{3}, 1, []int{0, 2, 5, 6}},
		{page7(), []int{3}, 2, []int{0, 2}},
		{page7(), []int{3}, 9, []int{0, 2}},
		{page7(), nil, 2, []int{0, 2, 3, 4, 5, 6}},
		{page7(), []int{1}, 0, []int{0, 2, 3, 4, 5, 6}},
		{page7(), []int{1}, 1, []int{0}},
		{page7(), []int{0}, 1, nil}, {page7(), []int{0}, 2, nil}, {page7(), []int{0}, -1, nil},
		{page7(), []int{0}, 0, []int{0, 2, 3, 5}},
		{page7(), []int{2, 4, 9, -3, 33}, 2, []int{0, 2, 3, 4, 5, 6}},
		{ownPage7(), []int{9}, 2, []int{0, 2, 3}}, {ownPage7(), []int{9}, 1, nil}, {ownPage7(), []int{9}, 0, nil},
		{ownPage7(), []int{9, 0}, 2, []int{0}},
	}
	for _, c := range cases {
		got := impl.SeenBy(c.d, c.hidden, c.by)
		if !slices.Equal(idsOf(got), c.want) {
			t.Errorf("SeenBy(%v, %v, %d) = %v, want the Ids %v", c.d, c.hidden, c.by, got, c.want)
		}
		for _, n := range got {
			if was, ok := node(c.d, n.Id); !ok || was != n {
				t.Errorf("SeenBy shows %v, but the node is %v", n, was)
			}
		}
		if got := impl.HiddenCount(c.d, c.hidden, c.by); got != len(c.d)-len(c.want) {
			t.Errorf("HiddenCount(%v, %v, %d) = %d", c.d, c.hidden, c.by, got)
		}
	}
}

// TestSightOfAllTrees compares the sight of all documents of five nodes with that by the way up.
func TestSightOfAllTrees(t *testing.T) {
	trees([]int{1, 3, 4, 6}, func(d []impl.Node) {
		for _, hidden := range sights {
			for by := -1; by <= 2; by++ {
				want := slices.DeleteFunc(slices.Clone(d), func(n impl.Node) bool { return !sees(d, hidden, by, n.Id) })
				if got := impl.SeenBy(d, hidden, by); !slices.Equal(got, want) {
					t.Fatalf("SeenBy(%v, %v, %d) = %v, want %v", d, hidden, by, got, want)
				}
				if got := impl.HiddenCount(d, hidden, by); got != len(d)-len(want) {
					t.Fatalf("HiddenCount(%v, %v, %d) = %d", d, hidden, by, got)
				}
				for id := -1; id <= 7; id++ {
					if got := impl.SeesNode(d, hidden, by, id); got != sees(d, hidden, by, id) {
						t.Fatalf("SeesNode(%v, %v, %d, %d) = %v", d, hidden, by, id, got)
					}
				}
			}
		}
	})
}

func TestSightOfNoDocument(t *testing.T) {
	for why, d := range notDocuments() {
		for _, hidden := range [][]int{nil, {0}, {3}} {
			for by := range 3 {
				if got := impl.SeenBy(d, hidden, by); len(got) != 0 {
					t.Errorf("%s: SeenBy gives %v", why, got)
				}
				if got := impl.HiddenCount(d, hidden, by); got != len(d) {
					t.Errorf("%s: HiddenCount gives %d", why, got)
				}
				for id := -1; id <= 9; id++ {
					if impl.SeesNode(d, hidden, by, id) {
						t.Errorf("%s: %d is seen", why, id)
					}
				}
				for _, kind := range kinds {
					e := impl.Edit{Kind: kind, Node: 2, Text: 1, By: by}
					if _, there := node(d, 2); there && impl.MayEdit(d, hidden, e) {
						t.Errorf("%s: MayEdit(%+v)", why, e)
					}
					if got, ok := impl.GuardEdit(d, hidden, e); ok || !slices.Equal(got, d) {
						t.Errorf("%s: GuardEdit gives %v, %v", why, got, ok)
					}
				}
			}
		}
	}
}

func TestMayEdit(t *testing.T) {
	for i, c := range []struct {
		hidden []int
		e      impl.Edit
		want   bool
	}{
		{[]int{3}, impl.Edit{Kind: impl.EdText, Node: 2, Text: 1, By: 2}, true},
		{[]int{3}, impl.Edit{Kind: impl.EdText, Node: 3, Text: 1, By: 2}, false},
		{nil, impl.Edit{Kind: impl.EdText, Node: 3, Text: 1, By: 2}, true},
		{[]int{3}, impl.Edit{Kind: impl.EdText, Node: 4, Text: 1, By: 1}, false},
		{[]int{3}, impl.Edit{Kind: impl.EdText, Node: 5, Text: 1, By: 1}, true},
		{[]int{3}, impl.Edit{Kind: impl.EdText, Node: 2, Parent: 3, Text: 1, By: 2}, true},
		{[]int{3}, impl.Edit{Kind: impl.EdText, Node: 50, Text: 1, By: 2}, true},
		{[]int{3}, impl.Edit{Kind: impl.EdDrop, Node: 2, By: 2}, false},
		{[]int{3}, impl.Edit{Kind: impl.EdDrop, Node: 2, By: 1}, false},
		{[]int{3}, impl.Edit{Kind: impl.EdDrop, Node: 2, By: 0}, false},
		{[]int{7}, impl.Edit{Kind: impl.EdDrop, Node: 2, By: 2}, true},
		{[]int{3}, impl.Edit{Kind: impl.EdDrop, Node: 5, By: 1}, true},
		{[]int{3}, impl.Edit{Kind: impl.EdDrop, Node: 3, By: 0}, true},
		{[]int{3}, impl.Edit{Kind: impl.EdDrop, Node: 3, By: 1}, false},
		{[]int{3}, impl.Edit{Kind: impl.EdDrop, Node: 5, Parent: 3, By: 1}, true},
		{[]int{3}, impl.Edit{Kind: impl.EdDrop, Node: 50, By: 1}, true},
		{[]int{3}, impl.Edit{Kind: impl.EdAdd, Node: 9, Parent: 3, By: 2}, false},
		{[]int{3}, impl.Edit{Kind: impl.EdAdd, Node: 9, Parent: 2, By: 2}, true},
		{[]int{3}, impl.Edit{Kind: impl.EdAdd, Node: 9, Parent: 2, Tag: 3, By: 2}, true},
		{[]int{3}, impl.Edit{Kind: impl.EdAdd, Node: 9, Parent: 4, By: 1}, false},
		{[]int{3}, impl.Edit{Kind: impl.EdAdd, Node: 9, Parent: 8, By: 2}, false},
		{[]int{3}, impl.Edit{Kind: impl.EdAdd, Node: 2, Parent: 0, By: 2}, true},
		{[]int{3}, impl.Edit{Kind: impl.EdAdd, Node: 3, Parent: 2, By: 2}, false},
		{[]int{3}, impl.Edit{Kind: impl.EdMove, Node: 5, Parent: 0, By: 1}, true},
		{[]int{3}, impl.Edit{Kind: impl.EdMove, Node: 5, Parent: 3, By: 1}, false},
		{[]int{3}, impl.Edit{Kind: impl.EdMove, Node: 4, Parent: 0, By: 1}, false},
		{[]int{3}, impl.Edit{Kind: impl.EdMove, Node: 5, Parent: 1, By: 1}, false},
		{[]int{3}, impl.Edit{Kind: impl.EdMove, Node: 2, Parent: 0, By: 2}, true},
		{nil, impl.Edit{Kind: impl.EdText, Node: 0, Text: 1}, false},
		{nil, impl.Edit{Kind: impl.EdText, Node: 2, Text: 1000}, false},
		{nil, impl.Edit{Kind: impl.EdText, Node: 100, Text: 1}, false},
		{nil, impl.Edit{Kind: impl.EdText, Node: 2, By: 6}, false},
		{nil, impl.Edit{Kind: impl.EdAdd, Node: 9, Parent: -1}, false},
		{nil, impl.Edit{Kind: 5, Node: 2}, false},
		{nil, impl.Edit{}, false},
	} {
		if got := impl.MayEdit(page7(), c.hidden, c.e); got != c.want {
			t.Errorf("%d: MayEdit(%v, %+v) = %v", i, c.hidden, c.e, got)
		}
	}
}

// TestHiddenRoot has a root that only the world 2 sees: no other one sees or changes anything, not even what it added.
func TestHiddenRoot(t *testing.T) {
	d := ownPage7()
	for _, e := range []impl.Edit{
		{Kind: impl.EdText, Node: 2, Text: 1, By: 1}, {Kind: impl.EdDrop, Node: 2, By: 1}, {Kind: impl.EdAdd, Node: 9, By: 1},
		{Kind: impl.EdAdd, Node: 9, Parent: 2, By: 1}, {Kind: impl.EdMove, Node: 3, Parent: 0, By: 1},
	} {
		if got, ok := impl.GuardEdit(d, []int{9}, e); ok || !slices.Equal(got, d) || impl.MayEdit(d, []int{9}, e) {
			t.Errorf("%+v: %v, %v", e, got, ok)
		}
		e.By = 2
		want, wantOk := impl.ApplyEdit(d, e)
		if got, ok := impl.GuardEdit(d, []int{9}, e); !ok || !wantOk || !slices.Equal(got, want) {
			t.Errorf("%+v: %v, %v", e, got, ok)
		}
	}
}

func expectMayEdit(d []impl.Node, hidden []int, e impl.Edit) bool {
	if e.Node == 0 {
		return false
	}
	if _, there := node(d, e.Node); there && !sees(d, hidden, e.By, e.Node) {
		return false
	}
	if e.Kind == impl.EdDrop {
		for _, n := range d {
			if isBelow(d, n.Id, e.Node) && !sees(d, hidden, e.By, n.Id) {
				return false
			}
		}
	}
	return e.Kind == impl.EdText || e.Kind == impl.EdDrop || sees(d, hidden, e.By, e.Parent)
}

// TestWhatIsNotSeenIsNeverChanged tries all edits of all documents of five nodes.
func TestWhatIsNotSeenIsNeverChanged(t *testing.T) {
	guarded := 0
	trees([]int{1, 3, 4, 6}, func(d []impl.Node) {
		for _, hidden := range [][]int{{0}, {1}, {2}, {1, 2}} {
			for code := range 4 * 8 * 7 * 3 {
				e := impl.Edit{Kind: 1 + code%4, Node: code / 4 % 8, Parent: code / 32 % 7, Tag: 2, Text: 555, By: code / 224}
				may := impl.MayEdit(d, hidden, e)
				if may != expectMayEdit(d, hidden, e) {
					t.Fatalf("MayEdit(%v, %v, %+v) = %v", d, hidden, e, may)
				}
				want, wantOk := impl.ApplyEdit(d, e)
				if !may {
					want, wantOk = d, false
				}
				got, ok := impl.GuardEdit(d, hidden, e)
				if ok != wantOk || !slices.Equal(got, want) {
					t.Fatalf("GuardEdit(%v, %v, %+v) = %v, %v, want %v, %v", d, hidden, e, got, ok, want, wantOk)
				}
				for _, n := range d {
					if now, there := node(got, n.Id); !sees(d, hidden, e.By, n.Id) && (!there || now != n) {
						t.Fatalf("GuardEdit(%v, %v, %+v) = %v changes %v", d, hidden, e, got, n)
					}
				}
				if may {
					guarded++
				}
			}
		}
	})
	if guarded == 0 {
		t.Error("no edit is allowed")
	}
}

func TestSightKeepsItsArguments(t *testing.T) {
	d, check := guard(t, page7(), impl.Node{Id: 77})
	hidden, checkHidden := guard(t, []int{3, 1, 4}, 0)
	for by := range 3 {
		scribble(impl.SeenBy(d, hidden, by), impl.Node{Id: 99})
		scribble(impl.SeenBy(d, nil, by), impl.Node{Id: 99})
		impl.HiddenCount(d, hidden, by)
		impl.SeesNode(d, hidden, by, 3)
		for _, e := range []impl.Edit{{}, {Kind: impl.EdText, Node: 2, By: by}, {Kind: impl.EdText, Node: 3, By: by}, {Kind: impl.EdText, Node: 50, By: by}, {Kind: impl.EdDrop, Node: 5, By: by}} {
			impl.MayEdit(d, hidden, e)
			got, _ := impl.GuardEdit(d, hidden, e)
			scribble(got, impl.Node{Id: 99})
		}
		check("sight")
		checkHidden("sight")
	}
}
