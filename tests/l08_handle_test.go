package tests

import (
	"math"
	"slices"
	"testing"

	"loop.example/g03001/impl"
)

// page8 hides the node 3, and 4 below it, from all but the page by the tag 3; the Id 100 has no handle.
func page8() []impl.Node {
	return []impl.Node{{Parent: -1}, {Id: 2, Tag: 1}, {Id: 3, Parent: 2, Tag: 3}, {Id: 4, Parent: 3, By: 1}, {Id: 99}, {Id: 100, Parent: 99}}
}

func TestHandleOf(t *testing.T) {
	cases := []struct{ seed, by, id, want int }{
		{77, 1, 2, 16234}, {77, 1, 3, 16235}, {77, 2, 2, 16237}, {78, 1, 2, 20388}, {77, 0, 0, 16229},
		{1, 0, 0, 66522}, {1, 0, 99, 66621}, {9999, 0, 0, 82134}, {9999, 5, 99, 82248},
		{622, 0, 55, 100000}, {622, 0, 56, 1}, {622, 5, 41, 1},
		{0, 1, 2, 0}, {-1, 1, 2, 0}, {10000, 1, 2, 0}, {math.MinInt, 1, 2, 0}, {math.MaxInt, 1, 2, 0},
		{77, -1, 2, 0}, {77, 6, 2, 0}, {77, math.MinInt, 2, 0}, {77, math.MaxInt, 2, 0},
		{77, 1, -1, 0}, {77, 1, 100, 0}, {77, 1, math.MinInt, 0}, {77, 1, math.MaxInt, 0}, {0, 0, 0, 0},
	}
	for _, c := range cases {
		if got := impl.HandleOf(c.seed, c.by, c.id); got != c.want {
			t.Errorf("HandleOf(%d, %d, %d) = %d, want %d", c.seed, c.by, c.id, got, c.want)
		}
	}
	for seed := 1; seed <= 9999; seed += 101 {
		for by := range impl.MaxWorlds + 1 {
			for id := range 100 {
				want := impl.Mod(impl.Hash([]int{seed, by, id}), 100000) + 1
				if got := impl.HandleOf(seed, by, id); got != want || got < 1 || got > 100000 {
					t.Fatalf("HandleOf(%d, %d, %d) = %d, want %d", seed, by, id, got, want)
				}
			}
		}
	}
}

func TestHandlesFor(t *testing.T) {
	handles := func(seed int, by int, ids ...int) []int {
		l := []int{}
		for _, id := range ids {
			l = append(l, impl.HandleOf(seed, by, id))
		}
		return l
	}
	cases := []struct {
		hidden   []int
		seed, by int
		want     []int
	}{
		{[]int{3}, 77, 1, handles(77, 1, 0, 2, 99, 100)},
		{[]int{3}, 77, 0, handles(77, 0, 0, 2, 3, 4, 99, 100)},
		{nil, 77, 1, handles(77, 1, 0, 2, 3, 4, 99, 100)},
		{[]int{0}, 77, 1, nil},
		{[]int{3}, 0, 1, []int{0, 0, 0, 0}}, {[]int{3}, 10000, 1, []int{0, 0, 0, 0}},
		{nil, 77, 6, []int{0, 0, 0, 0, 0, 0}}, {nil, 77, -1, []int{0, 0, 0, 0, 0, 0}},
	}
	for _, c := range cases {
		if got := impl.HandlesFor(page8(), c.hidden, c.seed, c.by); !slices.Equal(got, c.want) {
			t.Errorf("HandlesFor(%v, %d, %d) = %v, want %v", c.hidden, c.seed, c.by, got, c.want)
		}
	}
	if got := impl.HandlesFor(page8(), nil, 77, 1); got[4] == 0 || got[5] != 0 {
		t.Errorf("the Ids 99 and 100 have the handles %d and %d", got[4], got[5])
	}
	for why, d := range notDocuments() {
		if got := impl.HandlesFor(d, nil, 77, 1); len(got) != 0 {
			t.Errorf("%s: HandlesFor gives %v", why, got)
		}
	}
}

func TestResolveHandle(t *testing.T) {
	of := impl.HandleOf
	for i, c := range []struct {
		hidden         []int
		seed, by, h, w int
	}{
		{[]int{3}, 77, 1, of(77, 1, 2), 2}, {[]int{3}, 77, 1, of(77, 1, 0), 0}, {[]int{3}, 77, 1, of(77, 1, 99), 99},
		{[]int{3}, 77, 1, of(77, 1, 3), -1}, {[]int{3}, 77, 1, of(77, 1, 4), -1},
		{nil, 77, 1, of(77, 1, 3), 3}, {[]int{3}, 77, 0, of(77, 0, 3), 3},
		{nil, 77, 1, of(77, 1, 50), -1}, {nil, 78, 1, of(77, 1, 2), -1}, {nil, 77, 3, of(77, 1, 2), -1},
		{nil, 77, 1, 0, -1}, {nil, 77, 1, -1, -1}, {nil, 77, 1, math.MinInt, -1}, {nil, 77, 1, math.MaxInt, -1}, {nil, 77, 1, 100001, -1},
		{nil, 0, 1, 0, -1}, {nil, 10000, 1, 0, -1}, {nil, 77, 6, 0, -1}, {nil, 77, -1, 0, -1}, {nil, 0, 1, 1, -1}, {nil, 0, 1, of(77, 1, 2), -1},
		{[]int{0}, 77, 1, of(77, 1, 2), -1},
		// The world 2 has for the node 2 the handle that the world 1 would have for 5.
		{nil, 77, 2, of(77, 1, 5), 2},
	} {
		if got := impl.ResolveHandle(page8(), c.hidden, c.seed, c.by, c.h); got != c.w {
			t.Errorf("%d: ResolveHandle(%v, %d, %d, %d) = %d, want %d", i, c.hidden, c.seed, c.by, c.h, got, c.w)
		}
	}
	for why, d := range notDocuments() {
		if got := impl.ResolveHandle(d, nil, 77, 1, of(77, 1, 0)); got != -1 {
			t.Errorf("%s: ResolveHandle gives %d", why, got)
		}
	}
}

// TestLeastAndGreatestHandle has the nodes with the handles 1 and 100000.
func TestLeastAndGreatestHandle(t *testing.T) {
	d := []impl.Node{{Parent: -1}, {Id: 55}, {Id: 56}}
	if got := impl.HandlesFor(d, nil, 622, 0); !slices.Equal(got[1:], []int{100000, 1}) {
		t.Errorf("HandlesFor gives %v", got)
	}
	if got := impl.ResolveHandle(d, nil, 622, 0, 100000); got != 55 {
		t.Errorf("the handle 100000 leads to %d", got)
	}
	if got := impl.ResolveHandle(d, nil, 622, 0, 1); got != 56 {
		t.Errorf("the handle 1 leads to %d", got)
	}
}

// TestHandlesLeadOnlyToWhatIsSeen resolves the handles of all worlds in all documents of five nodes.
func TestHandlesLeadOnlyToWhatIsSeen(t *testing.T) {
	trees([]int{1, 3, 4, 6}, func(d []impl.Node) {
		for _, hidden := range sights {
			for by := range 3 {
				all := []int{}
				foreign := 0
				for id := range 9 {
					h := impl.HandleOf(77, by, id)
					want := -1
					if sees(d, hidden, by, id) {
						want = id
					} else {
						foreign++
					}
					all = append(all, h)
					if got := impl.ResolveHandle(d, hidden, 77, by, h); got != want {
						t.Fatalf("%v, %v: the handle of %d for %d leads to %d", d, hidden, by, id, got)
					}
					got, ok := impl.EditByHandle(d, hidden, 77, h, 555, by)
					if wantOk := want > 0; ok != wantOk || !ok && !slices.Equal(got, d) {
						t.Fatalf("%v, %v: by the handle of %d for %d: %v, %v", d, hidden, by, id, got, ok)
					}
				}
				if got := impl.ForeignHandles(d, hidden, 77, by, all); got != foreign {
					t.Fatalf("%v, %v: %d foreign handles of %d, want %d", d, hidden, got, by, foreign)
				}
				if got := impl.ForeignHandles(d, hidden, 77, by, impl.HandlesFor(d, hidden, 77, by)); got != 0 {
					t.Fatalf("%v, %v: %d handles of %d are foreign", d, hidden, got, by)
				}
			}
		}
	})
}

func TestEditByHandle(t *testing.T) {
	of := impl.HandleOf
	d, ok := impl.EditByHandle(page8(), []int{3}, 77, of(77, 1, 2), 8, 1)
	want := page8()
	want[1].Text, want[1].By = 8, 1
	if !ok || !slices.Equal(d, want) {
		t.Errorf("EditByHandle gives %v, %v", d, ok)
	}
	d, ok = impl.EditByHandle(page8(), []int{3}, 9999, of(9999, 0, 3), 999, 0)
	want = page8()
	want[2].Text = 999
	if !ok || !slices.Equal(d, want) {
		t.Errorf("EditByHandle gives %v, %v", d, ok)
	}
}

func TestEditByHandleRejects(t *testing.T) {
	of := impl.HandleOf
	for _, c := range []struct {
		why               string
		seed, h, text, by int
	}{
		{"hidden", 77, of(77, 1, 3), 8, 1},
		{"below a hidden one", 77, of(77, 1, 4), 8, 1},
		{"the root", 77, of(77, 1, 0), 8, 1},
		{"no node", 77, of(77, 1, 50), 8, 1},
		{"of another world", 77, of(77, 0, 0), 8, 1},
		{"of another seed", 78, of(77, 1, 2), 8, 1},
		{"no handle", 77, 0, 8, 1},
		{"a negative handle", 77, -1, 8, 1},
		{"text too great", 77, of(77, 1, 2), 1000, 1},
		{"text negative", 77, of(77, 1, 2), -1, 1},
		{"no seed", 0, of(77, 1, 2), 8, 1},
		{"no seed and no handle", 0, 0, 8, 1},
		{"world too great", 77, 0, 8, 6},
		{"world negative", 77, 0, 8, -1},
		{"an Id without a handle", 77, of(77, 1, 100), 8, 1},
	} {
		if d, ok := impl.EditByHandle(page8(), []int{3}, c.seed, c.h, c.text, c.by); ok || !slices.Equal(d, page8()) {
			t.Errorf("%s: %v, %v", c.why, d, ok)
		}
	}
	for why, d := range notDocuments() {
		if got, ok := impl.EditByHandle(d, nil, 77, of(77, 1, 2), 8, 1); ok || !slices.Equal(got, d) {
			t.Errorf("%s: %v, %v", why, got, ok)
		}
	}
}

// TestHandlesOfDroppedNodes drops the nodes 3 and 4, whose handles then lead nowhere until there are such nodes again.
func TestHandlesOfDroppedNodes(t *testing.T) {
	h3, h4 := impl.HandleOf(77, 1, 3), impl.HandleOf(77, 1, 4)
	d, ok := impl.ApplyEdit(page8(), impl.Edit{Kind: impl.EdDrop, Node: 3})
	if !ok {
		t.Fatal("the nodes are not dropped")
	}
	for _, h := range []int{h3, h4} {
		if got := impl.ResolveHandle(d, nil, 77, 1, h); got != -1 {
			t.Errorf("the handle %d leads to %d", h, got)
		}
		if got, ok := impl.EditByHandle(d, nil, 77, h, 8, 1); ok || !slices.Equal(got, d) {
			t.Errorf("by the handle %d: %v, %v", h, got, ok)
		}
	}
	if got := impl.ForeignHandles(d, nil, 77, 1, impl.HandlesFor(page8(), nil, 77, 1)[:5]); got != 2 {
		t.Errorf("%d foreign handles", got)
	}
	d, _ = impl.ApplyEdit(d, impl.Edit{Kind: impl.EdAdd, Node: 3, By: 1})
	if got := impl.ResolveHandle(d, nil, 77, 1, h3); got != 3 {
		t.Errorf("the handle of the new node leads to %d", got)
	}
}

func TestForeignHandles(t *testing.T) {
	h := impl.HandlesFor(page8(), nil, 77, 1)[:5]
	cases := []struct {
		hidden   []int
		seed, by int
		l        []int
		want     int
	}{
		{nil, 77, 1, h, 0}, {[]int{3}, 77, 1, h, 2}, {[]int{0}, 77, 1, h, 5}, {nil, 77, 1, nil, 0}, {nil, 77, 1, []int{}, 0},
		{nil, 77, 1, []int{0, -1, 0}, 3}, {nil, 77, 1, []int{h[1], 5, h[1], 5}, 2}, {nil, 78, 1, h, 5}, {nil, 77, 4, h[:4], 4},
		{nil, 0, 1, h, 5}, {nil, 0, 1, []int{0}, 1}, {nil, 77, 6, []int{0}, 1}, {nil, 77, 1, []int{math.MinInt, math.MaxInt}, 2},
	}
	for i, c := range cases {
		if got := impl.ForeignHandles(page8(), c.hidden, c.seed, c.by, c.l); got != c.want {
			t.Errorf("%d: ForeignHandles(%v, %d, %d, %v) = %d, want %d", i, c.hidden, c.seed, c.by, c.l, got, c.want)
		}
	}
	for why, d := range notDocuments() {
		if got := impl.ForeignHandles(d, nil, 77, 1, h); got != len(h) {
			t.Errorf("%s: ForeignHandles gives %d", why, got)
		}
	}
}

func TestHandlesKeepTheirArguments(t *testing.T) {
	d, check := guard(t, page8(), impl.Node{Id: 77})
	hidden, checkHidden := guard(t, []int{3}, 0)
	l, checkHandles := guard(t, []int{impl.HandleOf(77, 1, 2), 0, impl.HandleOf(77, 1, 3)}, 77)
	scribble(impl.HandlesFor(d, hidden, 77, 1), 99)
	for _, h := range l {
		impl.ResolveHandle(d, hidden, 77, 1, h)
		got, _ := impl.EditByHandle(d, hidden, 77, h, 8, 1)
		scribble(got, impl.Node{Id: 99})
	}
	impl.ForeignHandles(d, hidden, 77, 1, l)
	check("handles")
	checkHidden("handles")
	checkHandles("handles")
}
