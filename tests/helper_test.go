package tests

import (
	"slices"
	"testing"

	"loop.example/g03001/impl"
)

// guard returns the list with spare capacity behind it, and a check that
// neither the list nor that memory was changed.
func guard[T comparable](t *testing.T, l []T, spare T) ([]T, func(what string)) {
	t.Helper()
	whole := append(slices.Clone(l), spare, spare, spare)
	before := slices.Clone(whole)
	return whole[:len(l)], func(what string) {
		t.Helper()
		if !slices.Equal(whole, before) {
			t.Errorf("%s: the argument or the memory behind it was changed, or the result shares it: %v, before %v", what, whole, before)
		}
	}
}

// scribble writes over a result and over all memory behind it.
func scribble[T any](l []T, v T) {
	l = l[:cap(l)]
	for i := range l {
		l[i] = v
	}
}

// checkEqual compares each of the lists, no two of which are the same, with a copy of each.
func checkEqual[T any](t *testing.T, name string, equal func(a []T, b []T) bool, lists [][]T) {
	t.Helper()
	for i, a := range lists {
		for j, b := range lists {
			if got := equal(slices.Clone(a), b); got != (i == j) {
				t.Errorf("%s(%v, %v) = %v", name, a, b, got)
			}
		}
	}
	if !equal(nil, nil) || !equal(nil, []T{}) || !equal([]T{}, nil) || !equal([]T{}, []T{}) {
		t.Errorf("%s: nil and empty are not equal", name)
	}
}

// trees calls try with a document for each way in which nodes with these Ids,
// in ascending order, can hang below the root; it varies the other fields.
func trees(ids []int, try func(d []impl.Node)) {
	d := []impl.Node{{Parent: -1, Text: 100}}
	var grow func()
	grow = func() {
		n := len(d) - 1
		if n == len(ids) {
			try(slices.Clone(d))
			return
		}
		for _, parent := range d {
			d = append(d, impl.Node{Id: ids[n], Parent: parent.Id, Tag: n % 3, Text: 7 * ids[n], By: n % 2})
			grow()
			d = d[:n+1]
		}
	}
	grow()
}

// lineage returns the nodes from this one up to the root, of a document.
func lineage(d []impl.Node, id int) []impl.Node {
	for _, n := range d {
		if n.Id == id {
			return append([]impl.Node{n}, lineage(d, n.Parent)...)
		}
	}
	return nil
}

// isBelow reports whether the node top is in the lineage of the node id.
func isBelow(d []impl.Node, id int, top int) bool {
	return slices.ContainsFunc(lineage(d, id), func(n impl.Node) bool { return n.Id == top })
}

func node(d []impl.Node, id int) (impl.Node, bool) {
	for _, n := range d {
		if n.Id == id {
			return n, true
		}
	}
	return impl.Node{}, false
}

// fullDocument has MaxNodes nodes, with the Ids 0, 2, 4 and so on.
func fullDocument() []impl.Node {
	d := []impl.Node{{Parent: -1}}
	for i := 1; i < impl.MaxNodes; i++ {
		d = append(d, impl.Node{Id: 2 * i, Parent: i / 3 * 2, Tag: i % 10, Text: i, By: i % 6})
	}
	return d
}

// notDocuments has lists that are no documents, each for one reason.
func notDocuments() map[string][]impl.Node {
	with := func(i int, change func(n *impl.Node)) []impl.Node {
		d := []impl.Node{{Parent: -1}, {Id: 2, Tag: 1, Text: 5}, {Id: 3, Parent: 2, By: 1}, {Id: 7, Parent: 2}}
		change(&d[i])
		return d
	}
	out := map[string][]impl.Node{
		"nil":            nil,
		"empty":          {},
		"a root alone 1": {{Id: 1, Parent: -1}},
		"a root alone 2": {{Id: 0, Parent: 0}},
		"too many nodes": append(fullDocument(), impl.Node{Id: 90}),
		"no root":        {{Id: 2}, {Id: 3, Parent: 2}},
		"two roots":      {{Parent: -1}, {Id: 2, Parent: -1}},
		"a cycle":        {{Parent: -1}, {Id: 2, Parent: 3}, {Id: 3, Parent: 2}},
		"root Id 1":      with(0, func(n *impl.Node) { n.Id = 1 }),
		"root Id -1":     with(0, func(n *impl.Node) { n.Id = -1 }),
		"root Parent 0":  with(0, func(n *impl.Node) { n.Parent = 0 }),
		"root Parent -2": with(0, func(n *impl.Node) { n.Parent = -2 }),
		"root Parent 2":  with(0, func(n *impl.Node) { n.Parent = 2 }),
		"same Id":        with(2, func(n *impl.Node) { n.Id = 2 }),
		"same Id 0":      with(1, func(n *impl.Node) { n.Id = 0 }),
		"lesser Id":      with(2, func(n *impl.Node) { n.Id = 1 }),
		"last Id lesser": with(3, func(n *impl.Node) { n.Id = 2 }),
		"negative Id":    with(1, func(n *impl.Node) { n.Id = -2 }),
		"Parent -1":      with(1, func(n *impl.Node) { n.Parent = -1 }),
		"Parent later":   with(1, func(n *impl.Node) { n.Parent = 3 }),
		"Parent itself":  with(2, func(n *impl.Node) { n.Parent = 3 }),
		"Parent missing": with(3, func(n *impl.Node) { n.Parent = 4 }),
		"Parent unknown": with(3, func(n *impl.Node) { n.Parent = 99 }),
	}
	for i, at := range []string{"first", "second", "third", "last"} {
		out["Tag 10 at the "+at] = with(i, func(n *impl.Node) { n.Tag = 10 })
		out["Tag -1 at the "+at] = with(i, func(n *impl.Node) { n.Tag = -1 })
		out["Text 1000 at the "+at] = with(i, func(n *impl.Node) { n.Text = 1000 })
		out["Text -1 at the "+at] = with(i, func(n *impl.Node) { n.Text = -1 })
		out["By 6 at the "+at] = with(i, func(n *impl.Node) { n.By = 6 })
		out["By -1 at the "+at] = with(i, func(n *impl.Node) { n.By = -1 })
	}
	return out
}

// histories calls try with many histories of edits of the small Ids by the
// worlds 0 to 3; some of the edits apply and some do not.
func histories(try func(l []impl.Edit)) {
	x := 1
	next := func(n int) int {
		x = x * 48271 % 2147483647
		return x / 1000 % n
	}
	for range 2000 {
		l := []impl.Edit{}
		for range next(12) {
			l = append(l, impl.Edit{Kind: 1 + next(4), Node: next(9), Parent: next(6), Tag: next(4), Text: next(1000), By: next(4)})
		}
		try(l)
	}
}
