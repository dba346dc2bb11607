package tests

import (
	"math"
	"slices"
	"testing"

	"loop.example/g03001/impl"
)

func page5() []impl.Node {
	return []impl.Node{{Parent: -1, Tag: 2, Text: 3, By: 4}, {Id: 2, Tag: 1, Text: 5}, {Id: 3, Parent: 2, Tag: 3, Text: 7}, {Id: 7, Parent: 2}, {Id: 8, Parent: 3, By: 5}}
}

var kinds = []int{impl.EdAdd, impl.EdDrop, impl.EdText, impl.EdMove}

func TestEditKinds(t *testing.T) {
	if !slices.Equal(kinds, []int{1, 2, 3, 4}) {
		t.Error(kinds)
	}
}

// TestIsEdit goes to each limit and just beyond it, for each kind.
func TestIsEdit(t *testing.T) {
	ranges := []struct{ low, high int }{{1, 4}, {1, 99}, {0, 99}, {0, 9}, {0, 999}, {0, 5}}
	for _, kind := range kinds {
		for field, r := range ranges {
			for _, x := range []int{math.MinInt, -100, -1, 0, 1, 4, 5, 6, 9, 10, 98, 99, 100, 998, 999, 1000, math.MaxInt, r.low, r.low - 1, r.high, r.high + 1} {
				e := impl.Edit{Kind: kind, Node: 50, Parent: 50, Tag: 5, Text: 500, By: 3}
				*[]*int{&e.Kind, &e.Node, &e.Parent, &e.Tag, &e.Text, &e.By}[field] = x
				if got := impl.IsEdit(e); got != (r.low <= x && x <= r.high) {
					t.Errorf("IsEdit(%+v) = %v", e, got)
				}
			}
		}
	}
	if impl.IsEdit(impl.Edit{}) || impl.IsEdit(impl.Edit{Kind: impl.EdText, Node: 0, Text: 1}) {
		t.Error("the zero edit, or one of the root")
	}
}

func TestApplyEdit(t *testing.T) {
	for _, c := range []struct {
		why  string
		e    impl.Edit
		want string
	}{
		{"add in the middle", impl.Edit{Kind: impl.EdAdd, Node: 5, Parent: 3, Tag: 4, Text: 9, By: 2}, "0<-1:2.3@4 2<0:1.5@0 3<2:3.7@0 5<3:4.9@2 7<2:0.0@0 8<3:0.0@5"},
		{"add behind the root", impl.Edit{Kind: impl.EdAdd, Node: 1, Tag: 9, Text: 999, By: 5}, "0<-1:2.3@4 1<0:9.999@5 2<0:1.5@0 3<2:3.7@0 7<2:0.0@0 8<3:0.0@5"},
		{"add at the end", impl.Edit{Kind: impl.EdAdd, Node: 99, Parent: 8}, "0<-1:2.3@4 2<0:1.5@0 3<2:3.7@0 7<2:0.0@0 8<3:0.0@5 99<8:0.0@0"},
		{"add with the next Id", impl.Edit{Kind: impl.EdAdd, Node: 4, Parent: 3}, "0<-1:2.3@4 2<0:1.5@0 3<2:3.7@0 4<3:0.0@0 7<2:0.0@0 8<3:0.0@5"},
		{"drop one", impl.Edit{Kind: impl.EdDrop, Node: 7, By: 1}, "0<-1:2.3@4 2<0:1.5@0 3<2:3.7@0 8<3:0.0@5"},
		{"drop with one below", impl.Edit{Kind: impl.EdDrop, Node: 3}, "0<-1:2.3@4 2<0:1.5@0 7<2:0.0@0"},
		{"drop with all below", impl.Edit{Kind: impl.EdDrop, Node: 2, Parent: 99, Tag: 9, Text: 999, By: 5}, "0<-1:2.3@4"},
		{"text", impl.Edit{Kind: impl.EdText, Node: 7, Parent: 99, Tag: 9, Text: 8, By: 1}, "0<-1:2.3@4 2<0:1.5@0 3<2:3.7@0 7<2:0.8@1 8<3:0.0@5"},
		{"the same text of another world", impl.Edit{Kind: impl.EdText, Node: 3, Text: 7, By: 2}, "0<-1:2.3@4 2<0:1.5@0 3<2:3.7@2 7<2:0.0@0 8<3:0.0@5"},
		{"move below another", impl.Edit{Kind: impl.EdMove, Node: 7, Parent: 3, Tag: 9, Text: 999, By: 1}, "0<-1:2.3@4 2<0:1.5@0 3<2:3.7@0 7<3:0.0@1 8<3:0.0@5"},
		{"move to the root", impl.Edit{Kind: impl.EdMove, Node: 3, Parent: 0, By: 2}, "0<-1:2.3@4 2<0:1.5@0 3<0:3.7@2 7<2:0.0@0 8<3:0.0@5"},
		{"move to where it is", impl.Edit{Kind: impl.EdMove, Node: 8, Parent: 3, By: 1}, "0<-1:2.3@4 2<0:1.5@0 3<2:3.7@0 7<2:0.0@0 8<3:0.0@1"},
		{"move below what is not above", impl.Edit{Kind: impl.EdMove, Node: 8, Parent: 7}, "0<-1:2.3@4 2<0:1.5@0 3<2:3.7@0 7<2:0.0@0 8<7:0.0@0"},
	} {
		d, ok := impl.ApplyEdit(page5(), c.e)
		if got := impl.DocumentText(d); got != c.want || !ok {
			t.Errorf("%s: %s, %v, want %s", c.why, got, ok, c.want)
		}
	}
}

func TestApplyEditRejects(t *testing.T) {
	for _, c := range []struct {
		why string
		e   impl.Edit
	}{
		{"add: the Id is there", impl.Edit{Kind: impl.EdAdd, Node: 3, Parent: 2}},
		{"add: no Parent", impl.Edit{Kind: impl.EdAdd, Node: 5, Parent: 4}},
		{"add: Parent greater", impl.Edit{Kind: impl.EdAdd, Node: 5, Parent: 7}},
		{"add: Parent one greater", impl.Edit{Kind: impl.EdAdd, Node: 6, Parent: 7}},
		{"add: Parent itself", impl.Edit{Kind: impl.EdAdd, Node: 5, Parent: 5}},
		{"add: the root", impl.Edit{Kind: impl.EdAdd, Node: 0, Parent: 0}},
		{"drop: no node", impl.Edit{Kind: impl.EdDrop, Node: 4}},
		{"drop: the root", impl.Edit{Kind: impl.EdDrop, Node: 0}},
		{"text: no node", impl.Edit{Kind: impl.EdText, Node: 4, Text: 8}},
		{"text: the root", impl.Edit{Kind: impl.EdText, Node: 0, Text: 8}},
		{"move: no node", impl.Edit{Kind: impl.EdMove, Node: 4, Parent: 2}},
		{"move: no Parent", impl.Edit{Kind: impl.EdMove, Node: 7, Parent: 4}},
		{"move: neither", impl.Edit{Kind: impl.EdMove, Node: 6, Parent: 4}},
		{"move: Parent greater", impl.Edit{Kind: impl.EdMove, Node: 2, Parent: 3}},
		{"move: Parent greater, elsewhere", impl.Edit{Kind: impl.EdMove, Node: 3, Parent: 7}},
		{"move: Parent itself", impl.Edit{Kind: impl.EdMove, Node: 3, Parent: 3}},
		{"move: the root", impl.Edit{Kind: impl.EdMove, Node: 0, Parent: 0}},
		{"no kind", impl.Edit{Node: 3}},
		{"another kind", impl.Edit{Kind: 5, Node: 3}},
		{"a negative kind", impl.Edit{Kind: -1, Node: 3}},
		{"no edit: Node", impl.Edit{Kind: impl.EdAdd, Node: 100, Parent: 2}},
		{"no edit: negative Node", impl.Edit{Kind: impl.EdDrop, Node: -3}},
		{"no edit: Parent", impl.Edit{Kind: impl.EdText, Node: 3, Parent: 100}},
		{"no edit: negative Parent", impl.Edit{Kind: impl.EdAdd, Node: 5, Parent: -1}},
		{"no edit: Tag", impl.Edit{Kind: impl.EdDrop, Node: 3, Tag: 10}},
		{"no edit: Text", impl.Edit{Kind: impl.EdText, Node: 3, Text: 1000}},
		{"no edit: negative Text", impl.Edit{Kind: impl.EdMove, Node: 7, Parent: 3, Text: -1}},
		{"no edit: By", impl.Edit{Kind: impl.EdText, Node: 3, By: 6}},
		{"the zero edit", impl.Edit{}},
	} {
		if d, ok := impl.ApplyEdit(page5(), c.e); ok || !slices.Equal(d, page5()) {
			t.Errorf("%s: %v, %v", c.why, d, ok)
		}
	}
	for why, d := range notDocuments() {
		for _, kind := range kinds {
			for _, id := range []int{3, 5} {
				got, ok := impl.ApplyEdit(d, impl.Edit{Kind: kind, Node: id, Parent: 0, Text: 1})
				if ok || !slices.Equal(got, d) {
					t.Errorf("%s: kind %d: %v, %v", why, kind, got, ok)
				}
			}
		}
	}
}

func TestApplyEditUpToMaxNodes(t *testing.T) {
	add := impl.Edit{Kind: impl.EdAdd, Node: 9, By: 1}
	if d, ok := impl.ApplyEdit(fullDocument(), add); ok || !slices.Equal(d, fullDocument()) {
		t.Errorf("a node beyond MaxNodes: %v, %v", d, ok)
	}
	if d, ok := impl.ApplyEdit(fullDocument()[:15], add); !ok || len(d) != 16 || !impl.IsDocument(d) {
		t.Errorf("the last node: %v, %v", d, ok)
	}
	for _, e := range []impl.Edit{{Kind: impl.EdDrop, Node: 30}, {Kind: impl.EdText, Node: 30, Text: 1}, {Kind: impl.EdMove, Node: 30, Parent: 28}} {
		if _, ok := impl.ApplyEdit(fullDocument(), e); !ok {
			t.Errorf("%+v does not apply to a full document", e)
		}
	}
	// A document may have greater Ids than an edit can name.
	d := []impl.Node{{Parent: -1}, {Id: 50}, {Id: 100, Parent: 50}, {Id: math.MaxInt, Parent: 100}}
	got, ok := impl.ApplyEdit(d, impl.Edit{Kind: impl.EdAdd, Node: 99, Parent: 50})
	if want := slices.Insert(slices.Clone(d), 2, impl.Node{Id: 99, Parent: 50}); !ok || !slices.Equal(got, want) {
		t.Errorf("add before great Ids: %v, %v", got, ok)
	}
	if got, ok := impl.ApplyEdit(d, impl.Edit{Kind: impl.EdDrop, Node: 50}); !ok || len(got) != 1 {
		t.Errorf("drop great Ids: %v, %v", got, ok)
	}
}

// expectEdit says by other means what an edit of a small document does.
func expectEdit(d []impl.Node, e impl.Edit) ([]impl.Node, bool) {
	_, there := node(d, e.Node)
	_, parent := node(d, e.Parent)
	if e.Node == 0 || there == (e.Kind == impl.EdAdd) {
		return d, false
	}
	if (e.Kind == impl.EdAdd || e.Kind == impl.EdMove) && (!parent || e.Parent >= e.Node) {
		return d, false
	}
	out := []impl.Node{}
	for id := range 10 {
		n, ok := node(d, id)
		hit := id == e.Node
		switch {
		case hit && e.Kind == impl.EdAdd:
			out = append(out, impl.Node{Id: id, Parent: e.Parent, Tag: e.Tag, Text: e.Text, By: e.By})
		case !ok || e.Kind == impl.EdDrop && isBelow(d, id, e.Node):
		case hit && e.Kind == impl.EdText:
			out = append(out, impl.Node{Id: id, Parent: n.Parent, Tag: n.Tag, Text: e.Text, By: e.By})
		case hit:
			out = append(out, impl.Node{Id: id, Parent: e.Parent, Tag: n.Tag, Text: n.Text, By: e.By})
		default:
			out = append(out, n)
		}
	}
	return out, true
}

// TestAnEditChangesNothingElsewhere tries all edits of all documents of five nodes.
func TestAnEditChangesNothingElsewhere(t *testing.T) {
	trees([]int{1, 3, 4, 6}, func(d []impl.Node) {
		for _, kind := range kinds {
			for id := range 8 {
				for parent := range 8 {
					e := impl.Edit{Kind: kind, Node: id, Parent: parent, Tag: 8, Text: 555, By: 3}
					want, wantOk := expectEdit(d, e)
					got, ok := impl.ApplyEdit(d, e)
					if ok != wantOk || !slices.Equal(got, want) {
						t.Fatalf("%v: %+v gives %v, %v, want %v, %v", d, e, got, ok, want, wantOk)
					}
					if !impl.IsDocument(got) {
						t.Fatalf("%v: %+v gives %v, which is no document", d, e, got)
					}
				}
			}
		}
	})
}

func TestRunEdits(t *testing.T) {
	l := []impl.Edit{
		{Kind: impl.EdAdd, Node: 9, Parent: 7, By: 1},
		{Kind: impl.EdText, Node: 9, Text: 6, By: 2},
		{Kind: impl.EdDrop, Node: 7, By: 2},
		{Kind: impl.EdText, Node: 9, Text: 3},
		{Kind: impl.EdText, Node: 3, Text: 1, By: 2},
		{Kind: 9, Node: 3, Text: 2, By: 2},
		{Kind: impl.EdMove, Node: 8, Parent: 0, By: 3},
		{Kind: impl.EdText, Node: 0, Text: 8, By: 2},
		{Kind: impl.EdAdd, Node: 7, Parent: 3, Tag: 1, By: 4},
	}
	want := []string{
		"0<-1:2.3@4 2<0:1.5@0 3<2:3.7@0 7<2:0.0@0 8<3:0.0@5",
		"0<-1:2.3@4 2<0:1.5@0 3<2:3.7@0 7<2:0.0@0 8<3:0.0@5 9<7:0.0@1",
		"0<-1:2.3@4 2<0:1.5@0 3<2:3.7@0 7<2:0.0@0 8<3:0.0@5 9<7:0.6@2",
		"0<-1:2.3@4 2<0:1.5@0 3<2:3.7@0 8<3:0.0@5",
		"0<-1:2.3@4 2<0:1.5@0 3<2:3.7@0 8<3:0.0@5",
		"0<-1:2.3@4 2<0:1.5@0 3<2:3.1@2 8<3:0.0@5",
		"0<-1:2.3@4 2<0:1.5@0 3<2:3.1@2 8<3:0.0@5",
		"0<-1:2.3@4 2<0:1.5@0 3<2:3.1@2 8<0:0.0@3",
		"0<-1:2.3@4 2<0:1.5@0 3<2:3.1@2 8<0:0.0@3",
		"0<-1:2.3@4 2<0:1.5@0 3<2:3.1@2 7<3:1.0@4 8<0:0.0@3",
	}
	for i, text := range want {
		if got := impl.DocumentText(impl.RunEdits(page5(), l[:i])); got != text {
			t.Errorf("after %d edits: %s, want %s", i, got, text)
		}
	}
	for why, d := range notDocuments() {
		if got := impl.RunEdits(d, l); !slices.Equal(got, d) {
			t.Errorf("%s: %v becomes %v", why, d, got)
		}
	}
}

func TestEditText(t *testing.T) {
	cases := []struct {
		e    impl.Edit
		want string
	}{
		{impl.Edit{Kind: impl.EdAdd, Node: 9, Parent: 7, By: 1}, "add 9 7 0 0 @1"},
		{impl.Edit{Kind: impl.EdAdd, Node: 1, Parent: 2, Tag: 3, Text: 4, By: 5}, "add 1 2 3 4 @5"},
		{impl.Edit{Kind: impl.EdDrop, Node: 1, Parent: 2, Tag: 3, Text: 4, By: 5}, "drop 1 @5"},
		{impl.Edit{Kind: impl.EdText, Node: 1, Parent: 2, Tag: 3, Text: 4, By: 5}, "text 1 4 @5"},
		{impl.Edit{Kind: impl.EdMove, Node: 1, Parent: 2, Tag: 3, Text: 4, By: 5}, "move 1 2 @5"},
		{impl.Edit{Kind: impl.EdAdd, Node: -1, Parent: -20, Tag: 30, Text: 4000, By: -5}, "add -1 -20 30 4000 @-5"},
		{impl.Edit{Kind: impl.EdDrop, Node: 0, By: 60}, "drop 0 @60"},
		{impl.Edit{Kind: impl.EdText, Text: -7}, "text 0 -7 @0"},
		{impl.Edit{Kind: impl.EdMove, Node: 100, Parent: 100}, "move 100 100 @0"},
		{impl.Edit{}, ""}, {impl.Edit{Kind: 5, Node: 1}, ""}, {impl.Edit{Kind: -1, Node: 1}, ""}, {impl.Edit{Kind: math.MaxInt}, ""},
	}
	for _, c := range cases {
		if got := impl.EditText(c.e); got != c.want {
			t.Errorf("EditText(%+v) = %q, want %q", c.e, got, c.want)
		}
	}
}

func TestEditsKeepTheirArguments(t *testing.T) {
	edits := []impl.Edit{
		{Kind: impl.EdAdd, Node: 1}, {Kind: impl.EdAdd, Node: 99}, {Kind: impl.EdDrop, Node: 2}, {Kind: impl.EdText, Node: 8, Text: 5},
		{Kind: impl.EdMove, Node: 8, Parent: 0}, {Kind: impl.EdDrop, Node: 6}, {Kind: 7, Node: 1},
	}
	d, check := guard(t, page5(), impl.Node{Id: 77})
	for _, e := range edits {
		got, _ := impl.ApplyEdit(d, e)
		scribble(got, impl.Node{Id: -9})
		check("ApplyEdit of " + impl.EditText(e))
		scribble(impl.RunEdits(d, []impl.Edit{e}), impl.Node{Id: -9})
		check("RunEdits of " + impl.EditText(e))
	}
	scribble(impl.RunEdits(d, nil), impl.Node{Id: -9})
	check("RunEdits of nothing")
	l, checkEdits := guard(t, edits, impl.Edit{Kind: 77})
	impl.RunEdits(d, l)
	checkEdits("RunEdits")
}
