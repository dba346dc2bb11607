package tests

import (
	"math"
	"slices"
	"testing"

	"loop.example/g03001/impl"
)

// guard returns the list with spare capacity behind it, and a check that
// neither the list nor that memory was changed.
func guard[T comparable](t *testing.T, l []T, spare T) ([]T, func(what string)) {
	t.Helper()
	whole := append(slices.Clone(l), spare, spare, spare)
	before := slices.Clone(whole)
	return whole[:len(l)], func(what string) {
		t.Helper()
		if !slices.Equal(whole, before) {
			t.Errorf("%s: the argument or the memory behind it was changed, or the result shares it: %v, before %v", what, whole, before)
		}
	}
}

// scribble writes over a result and over all memory behind it.
func scribble[T any](l []T, v T) {
	l = l[:cap(l)]
	for i := range l {
		l[i] = v
	}
}

// checkEqual compares each of the lists, no two of which are the same, with a copy of each.
func checkEqual[T any](t *testing.T, name string, equal func(a []T, b []T) bool, lists [][]T) {
	t.Helper()
	for i, a := range lists {
		for j, b := range lists {
			if got := equal(slices.Clone(a), b); got != (i == j) {
				t.Errorf("%s(%v, %v) = %v", name, a, b, got)
			}
		}
	}
	if !equal(nil, nil) || !equal(nil, []T{}) || !equal([]T{}, nil) || !equal([]T{}, []T{}) {
		t.Errorf("%s: nil and empty are not equal", name)
	}
}

// trees calls try with a document for each way in which nodes with these Ids,
// in ascending order, can hang below the root; it varies the other fields.
func trees(ids []int, try func(d []impl.Node)) {
	d := []impl.Node{{Parent: -1, Text: 100}}
	var grow func()
	grow = func() {
		n := len(d) - 1
		if n == len(ids) {
			try(slices.Clone(d))
			return
		}
		for _, parent := range d {
			d = append(d, impl.Node{Id: ids[n], Parent: parent.Id, Tag: n % 3, Text: 7 * ids[n], By: n % 2})
			grow()
			d = d[:n+1]
		}
	}
	grow()
}

// lineage returns the nodes from this one up to the root, of a document.
func lineage(d []impl.Node, id int) []impl.Node {
	for _, n := range d {
		if n.Id == id {
			return append([]impl.Node{n}, lineage(d, n.Parent)...)
		}
	}
	return nil
}

// isBelow reports whether the node top is in the lineage of the node id.
func isBelow(d []impl.Node, id int, top int) bool {
	return slices.ContainsFunc(lineage(d, id), func(n impl.Node) bool { return n.Id == top })
}

func node(d []impl.Node, id int) (impl.Node, bool) {
	for _, n := range d {
		if n.Id == id {
			return n, true
		}
	}
	return impl.Node{}, false
}

// fullDocument has MaxNodes nodes, with the Ids 0, 2, 4 and so on.
func fullDocument() []impl.Node {
	d := []impl.Node{{Parent: -1}}
	for i := 1; i < impl.MaxNodes; i++ {
		d = append(d, impl.Node{Id: 2 * i, Parent: i / 3 * 2, Tag: i % 10, Text: i, By: i % 6})
	}
	return d
}

// notDocuments has lists that are no documents, each for one reason.
func notDocuments() map[string][]impl.Node {
	with := func(i int, change func(n *impl.Node)) []impl.Node {
		d := []impl.Node{{Parent: -1}, {Id: 2, Tag: 1, Text: 5}, {Id: 3, Parent: 2, By: 1}, {Id: 7, Parent: 2}}
		change(&d[i])
		return d
	}
	out := map[string][]impl.Node{
		"nil":            nil,
		"empty":          {},
		"a root alone 1": {{Id: 1, Parent: -1}},
		"a root alone 2": {{Id: 0, Parent: 0}},
		"too many nodes": append(fullDocument(), impl.Node{Id: 90}),
		"no root":        {{Id: 2}, {Id: 3, Parent: 2}},
		"two roots":      {{Parent: -1}, {Id: 2, Parent: -1}},
		"a cycle":        {{Parent: -1}, {Id: 2, Parent: 3}, {Id: 3, Parent: 2}},
		"root Id 1":      with(0, func(n *impl.Node) { n.Id = 1 }),
		"root Id -1":     with(0, func(n *impl.Node) { n.Id = -1 }),
		"root Parent 0":  with(0, func(n *impl.Node) { n.Parent = 0 }),
		"root Parent -2": with(0, func(n *impl.Node) { n.Parent = -2 }),
		"root Parent 2":  with(0, func(n *impl.Node) { n.Parent = 2 }),
		"same Id":        with(2, func(n *impl.Node) { n.Id = 2 }),
		"same Id 0":      with(1, func(n *impl.Node) { n.Id = 0 }),
		"lesser Id":      with(2, func(n *impl.Node) { n.Id = 1 }),
		"last Id lesser": with(3, func(n *impl.Node) { n.Id = 2 }),
		"negative Id":    with(1, func(n *impl.Node) { n.Id = -2 }),
		"Parent -1":      with(1, func(n *impl.Node) { n.Parent = -1 }),
		"Parent later":   with(1, func(n *impl.Node) { n.Parent = 3 }),
		"Parent itself":  with(2, func(n *impl.Node) { n.Parent = 3 }),
		"Parent missing": with(3, func(n *impl.Node) { n.Parent = 4 }),
		"Parent unknown": with(3, func(n *impl.Node) { n.Parent = 99 }),
	}
	for i, at := range []string{"first", "second", "third", "last"} {
		out["Tag 10 at the "+at] = with(i, func(n *impl.Node) { n.Tag = 10 })
		out["Tag -1 at the "+at] = with(i, func(n *impl.Node) { n.Tag = -1 })
		out["Text 1000 at the "+at] = with(i, func(n *impl.Node) { n.Text = 1000 })
		out["Text -1 at the "+at] = with(i, func(n *impl.Node) { n.Text = -1 })
		out["By 6 at the "+at] = with(i, func(n *impl.Node) { n.By = 6 })
		out["By -1 at the "+at] = with(i, func(n *impl.Node) { n.By = -1 })
	}
	return out
}

// histories calls try with many histories of edits of the small Ids by the
// worlds 0 to 3; some of the edits apply and some do not.
func histories(try func(l []impl.Edit)) {
	next := dice(1)
	for range 2000 {
		l := []impl.Edit{}
		for range next(12) {
			l = append(l, impl.Edit{Kind: 1 + next(4), Node: next(9), Parent: next(6), Tag: next(4), Text: next(1000), By: next(4)})
		}
		try(l)
	}
}

// dice returns a function that returns numbers from 0 to n - 1, the same ones for the same seed.
func dice(seed int) func(n int) int {
	x := seed
	return func(n int) int {
		x = x * 48271 % 2147483647
		return x / 1000 % n
	}
}

// around calls try with numbers in each of the ranges and beyond it.
func around(ranges [][2]int, try func(field int, x int, inside bool)) {
	for field, r := range ranges {
		for _, x := range []int{math.MinInt, -1000, -1, 0, 1, 2, 1000000, math.MaxInt, r[0] - 1, r[0], r[0] + 1, r[1] - 1, r[1], r[1] + 1} {
			try(field, x, r[0] <= x && x <= r[1])
		}
	}
}

// allSites has the 90 sites there are.
func allSites() []impl.Site {
	l := []impl.Site{}
	for n := range 90 {
		l = append(l, impl.Site{Owner: 1 + n/10, Sub: n % 10})
	}
	return l
}

// allPatterns has the 110 patterns there are.
func allPatterns() []impl.Pattern {
	l := []impl.Pattern{}
	for n := range 110 {
		l = append(l, impl.Pattern{Owner: n / 11, Sub: n%11 - 1})
	}
	return l
}

var notSites = []impl.Site{{}, {Owner: -1}, {Owner: 10}, {Owner: 1, Sub: -1}, {Owner: 1, Sub: 10}, {Owner: 10, Sub: 10}, {Owner: math.MaxInt, Sub: 1}, {Owner: 1, Sub: math.MinInt}}

var notPatterns = []impl.Pattern{{Owner: -1}, {Owner: 10}, {Owner: 10, Sub: -1}, {Owner: 1, Sub: -2}, {Sub: -2}, {Sub: 10}, {Owner: 1, Sub: 10}, {Owner: math.MaxInt, Sub: 1}, {Owner: 1, Sub: math.MinInt}}

// matches says by other means what a pattern that is one matches.
func matches(p impl.Pattern, s impl.Site) bool {
	return (p.Owner == 0 || p.Owner == s.Owner) && (p.Sub == -1 || p.Sub == s.Sub)
}

// checkPicked compares what is picked out of a list for a number with the elements that belong to it.
func checkPicked[T comparable](t *testing.T, name string, pick func(l []T, n int) []T, list []T, belongs func(x T, n int) bool) {
	t.Helper()
	var none T
	l, check := guard(t, list, list[0])
	for _, n := range []int{math.MinInt, -2, -1, 0, 1, 2, 3, 4, 5, 6, 7, 9, 10, math.MaxInt} {
		want := slices.DeleteFunc(slices.Clone(list), func(x T) bool { return !belongs(x, n) })
		got := pick(l, n)
		if !slices.Equal(got, want) {
			t.Errorf("%s of %d: %+v, want %+v", name, n, got, want)
		}
		scribble(got, none)
		check(name)
		if len(pick(nil, n)) != 0 || len(pick([]T{}, n)) != 0 {
			t.Errorf("%s of %d: nothing becomes something", name, n)
		}
	}
}
