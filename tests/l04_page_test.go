package tests

import (
	"math"
	"slices"
	"testing"

	"loop.example/g03001/impl"
)

func page4() []impl.Node {
	return []impl.Node{{Parent: -1}, {Id: 2, Tag: 1, Text: 5}, {Id: 3, Parent: 2, Tag: 3, Text: 7, By: 1}, {Id: 7, Parent: 2}, {Id: 120, Parent: 7}}
}

func TestPageLimits(t *testing.T) {
	if impl.MaxNodes != 16 || impl.MaxTag != 9 || impl.MaxWorlds != 5 {
		t.Error(impl.MaxNodes, impl.MaxTag, impl.MaxWorlds)
	}
}

func TestIsDocument(t *testing.T) {
	documents := [][]impl.Node{
		{{Parent: -1}},
		{{Parent: -1, Tag: 9, Text: 999, By: 5}},
		{{Parent: -1}, {Id: 1}},
		{{Parent: -1}, {Id: 1, Tag: 9, Text: 999, By: 5}, {Id: 2, Parent: 1}},
		{{Parent: -1}, {Id: 5}, {Id: 6}, {Id: 9}},
		{{Parent: -1}, {Id: 5}, {Id: 6, Parent: 5}, {Id: 8, Parent: 5}, {Id: 9, Parent: 6}},
		{{Parent: -1}, {Id: 100}, {Id: 1000, Parent: 100}, {Id: math.MaxInt, Parent: 1000}},
		page4(), fullDocument(), fullDocument()[:impl.MaxNodes-1],
	}
	for _, d := range documents {
		if !impl.IsDocument(d) {
			t.Errorf("%v is no document", d)
		}
	}
	for why, d := range notDocuments() {
		if impl.IsDocument(d) {
			t.Errorf("%s: %v is a document", why, d)
		}
	}
	huge := make([]impl.Node, 100000)
	for i := range huge {
		huge[i] = impl.Node{Id: i, Parent: i - 1}
	}
	if impl.IsDocument(huge) || !impl.IsDocument(huge[:impl.MaxNodes]) || impl.IsDocument(huge[:impl.MaxNodes+1]) {
		t.Error("the number of nodes")
	}
}

// TestIsDocumentExtremes puts the greatest and the least integers into each field of each node.
func TestIsDocumentExtremes(t *testing.T) {
	for i := range 4 {
		for _, x := range []int{math.MinInt, math.MaxInt} {
			for field := range 5 {
				d := page4()[:4]
				*[]*int{&d[i].Id, &d[i].Parent, &d[i].Tag, &d[i].Text, &d[i].By}[field] = x
				// Only the last node may have any greater Id.
				want := field == 0 && i == 3 && x == math.MaxInt
				if got := impl.IsDocument(d); got != want {
					t.Errorf("%v: IsDocument is %v", d, got)
				}
			}
		}
	}
}

func TestNodeOf(t *testing.T) {
	cases := []struct {
		d        []impl.Node
		id, want int
	}{
		{page4(), 0, 0}, {page4(), 2, 1}, {page4(), 3, 2}, {page4(), 7, 3}, {page4(), 120, 4},
		{page4(), 1, -1}, {page4(), 4, -1}, {page4(), -1, -1}, {page4(), 121, -1}, {page4(), math.MinInt, -1}, {page4(), math.MaxInt, -1},
		{nil, 0, -1}, {[]impl.Node{}, 0, -1},
		{[]impl.Node{{Id: 4}, {Id: -3}, {Id: 4}, {Id: 1}, {Id: -3}}, 4, 0},
		{[]impl.Node{{Id: 4}, {Id: -3}, {Id: 4}, {Id: 1}, {Id: -3}}, -3, 1},
		{[]impl.Node{{Id: 4}, {Id: -3}, {Id: 4}, {Id: 1}, {Id: -3}}, 1, 3},
		{[]impl.Node{{Id: 4}, {Id: -3}, {Id: 4}, {Id: 1}, {Id: -3}}, 0, -1},
	}
	for _, c := range cases {
		if got := impl.NodeOf(c.d, c.id); got != c.want {
			t.Errorf("NodeOf(%v, %d) = %d, want %d", c.d, c.id, got, c.want)
		}
	}
}

// TestChildrenOf has several nodes with the same parent, and lists that are no documents.
func TestChildrenOf(t *testing.T) {
	odd := []impl.Node{{Id: 9, Parent: 4}, {Id: 3, Parent: -5}, {Id: 9, Parent: 4}, {Id: 4, Parent: 4}}
	cases := []struct {
		d    []impl.Node
		id   int
		want []int
	}{
		{page4(), 0, []int{2}}, {page4(), 2, []int{3, 7}}, {page4(), 7, []int{120}}, {page4(), 3, nil}, {page4(), 120, nil},
		{page4(), -1, []int{0}}, {page4(), 1, nil}, {page4(), -2, nil}, {nil, 0, nil}, {nil, -1, nil},
		{[]impl.Node{{Parent: -1}, {Id: 1}, {Id: 2}, {Id: 3}}, 0, []int{1, 2, 3}},
		{[]impl.Node{{Parent: -1}, {Id: 1}, {Id: 2, Parent: 1}, {Id: 3}, {Id: 4, Parent: 1}}, 1, []int{2, 4}},
		{[]impl.Node{{Parent: -1}, {Id: 1}, {Id: 2, Parent: 1}, {Id: 3}, {Id: 4, Parent: 1}}, 0, []int{1, 3}},
		{odd, 4, []int{9, 9, 4}}, {odd, -5, []int{3}}, {odd, 9, nil},
	}
	for _, c := range cases {
		if got := impl.ChildrenOf(c.d, c.id); !slices.Equal(got, c.want) {
			t.Errorf("ChildrenOf(%v, %d) = %v, want %v", c.d, c.id, got, c.want)
		}
	}
}

// TestEveryNodeIsUnderTheRoot goes through all documents of six nodes.
func TestEveryNodeIsUnderTheRoot(t *testing.T) {
	ids := []int{1, 2, 4, 7, 8}
	trees(ids, func(d []impl.Node) {
		if !impl.IsDocument(d) {
			t.Fatalf("%v is no document", d)
		}
		for id := -2; id <= 9; id++ {
			_, there := node(d, id)
			if got := impl.IsUnder(d, id, 0); got != there {
				t.Errorf("%v: IsUnder(%d, 0) is %v", d, id, got)
			}
			for top := -2; top <= 9; top++ {
				if got := impl.IsUnder(d, id, top); got != isBelow(d, id, top) {
					t.Errorf("%v: IsUnder(%d, %d) is %v", d, id, top, got)
				}
			}
		}
	})
}

func TestIsUnder(t *testing.T) {
	d := page4()
	for _, c := range []struct {
		id, top int
		want    bool
	}{
		{0, 0, true}, {2, 0, true}, {120, 0, true}, {120, 7, true}, {120, 2, true}, {120, 120, true}, {3, 3, true},
		{120, 3, false}, {3, 7, false}, {7, 3, false}, {2, 3, false}, {0, 2, false}, {7, 120, false},
		{4, 0, false}, {3, 4, false}, {4, 4, false}, {0, -1, false}, {3, -1, false}, {-1, -1, false}, {-1, 0, false},
		{math.MaxInt, 0, false}, {0, math.MinInt, false}, {math.MinInt, math.MinInt, false},
	} {
		if got := impl.IsUnder(d, c.id, c.top); got != c.want {
			t.Errorf("IsUnder(%d, %d) is %v", c.id, c.top, got)
		}
	}
	for why, d := range notDocuments() {
		for id := -1; id <= 9; id++ {
			for top := -1; top <= 9; top++ {
				if impl.IsUnder(d, id, top) {
					t.Errorf("%s: in %v %d is under %d", why, d, id, top)
				}
			}
		}
	}
}

func TestEqualDocuments(t *testing.T) {
	lists := [][]impl.Node{nil, {{Parent: -1}}, {{Parent: -1}, {Id: 1}}, page4(), page4()[:3], page4()[1:], fullDocument()}
	for i := range page4() {
		for field := range 5 {
			d := page4()
			*[]*int{&d[i].Id, &d[i].Parent, &d[i].Tag, &d[i].Text, &d[i].By}[field] += 1000
			lists = append(lists, d)
		}
	}
	checkEqual(t, "EqualDocuments", impl.EqualDocuments, lists)
}

func TestDocumentText(t *testing.T) {
	cases := []struct {
		d    []impl.Node
		want string
	}{
		{nil, "-"}, {[]impl.Node{}, "-"},
		{[]impl.Node{{}}, "0<0:0.0@0"},
		{[]impl.Node{{Parent: -1}}, "0<-1:0.0@0"},
		{page4(), "0<-1:0.0@0 2<0:1.5@0 3<2:3.7@1 7<2:0.0@0 120<7:0.0@0"},
		{[]impl.Node{{Id: 1, Parent: 2, Tag: 3, Text: 4, By: 5}}, "1<2:3.4@5"},
		{[]impl.Node{{Id: -1, Parent: -2, Tag: -3, Text: -4, By: -5}, {Id: 10, Parent: 20, Tag: 30, Text: 4000, By: 50}}, "-1<-2:-3.-4@-5 10<20:30.4000@50"},
	}
	for _, c := range cases {
		if got := impl.DocumentText(c.d); got != c.want {
			t.Errorf("DocumentText(%v) = %q, want %q", c.d, got, c.want)
		}
	}
}

func TestPageKeepsItsArguments(t *testing.T) {
	d, check := guard(t, page4(), impl.Node{Id: 77})
	impl.IsDocument(d)
	impl.NodeOf(d, 7)
	impl.IsUnder(d, 7, 0)
	impl.DocumentText(d)
	scribble(impl.ChildrenOf(d, 2), 99)
	check("the functions of documents")
}
