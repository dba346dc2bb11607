package tests

import (
	"math"
	"slices"
	"testing"

	"loop.example/g03001/impl"
)

// of30 returns the entries of an extension, or those of all others.
func of30(l []impl.Stored, ext int, own bool) []impl.Stored {
	return slices.DeleteFunc(slices.Clone(l), func(x impl.Stored) bool { return (x.Ext == ext) != own })
}

func TestTakeSnapshot(t *testing.T) {
	lists := notStores()
	lists["a store"] = longStore(24)
	lists["no order"] = entries(2, 1, 1, 1, 1, 9, 9, 9, 2, 0, 0, 0, 1, 0, 0, 0, 0, 6, 6, 6, 1, 9, 9, 9)
	lists["nothing"] = nil
	for why, l := range lists {
		for _, p := range []impl.Package{fine27(), pack26(), full26(), {}, {Ext: -1, Seal: 7}} {
			want := impl.Snapshot{Package: p, Entries: of30(l, p.Ext, true)}
			if got := impl.TakeSnapshot(p, l); !alike(got, want) {
				t.Errorf("%s: TakeSnapshot(%+v, %+v) = %+v", why, p, l, got)
			}
		}
	}
}

// TestGoingBackRestoresWhatBelongedToAVersion goes on from a snapshot in many ways, and back.
func TestGoingBackRestoresWhatBelongedToAVersion(t *testing.T) {
	roll := dice(30)
	for range 4000 {
		then, later := someStore(roll, 22), someStore(roll, 24)
		if roll(2) == 0 {
			later = then
			for range roll(9) {
				later, _ = impl.PutStored(later, 1+roll(5), roll(10), roll(1000))
			}
		}
		p := finePack(roll, 1+roll(5), 1)
		s := impl.TakeSnapshot(p, then)
		others := of30(later, p.Ext, false)
		wantOk := len(s.Entries)+len(others) <= 24
		want := slices.Concat(others, s.Entries)
		slices.SortStableFunc(want, func(a impl.Stored, b impl.Stored) int { return a.Ext - b.Ext })
		if !wantOk {
			want = later
		}
		got, ok := impl.RestoreStore(later, s)
		if ok != wantOk || !slices.Equal(got, want) {
			t.Fatalf("RestoreStore(%+v, %+v) = %+v, %v", later, s, got, ok)
		}
		if !ok {
			continue
		}
		if !impl.IsStore(got) || !slices.Equal(of30(got, p.Ext, true), of30(then, p.Ext, true)) || !slices.Equal(of30(got, p.Ext, false), others) {
			t.Fatalf("RestoreStore(%+v, %+v) = %+v", later, s, got)
		}
		if again := impl.TakeSnapshot(p, got); !alike(again, s) {
			t.Fatalf("the snapshot %+v became %+v", s, again)
		}
	}
	for n := 20; n <= 24; n++ {
		s := impl.Snapshot{Package: impl.Package{Ext: 4}}
		for i := range 6 {
			s.Entries = append(s.Entries, entry(4, i, i, 1))
		}
		got, ok := impl.RestoreStore(longStore(n-4), s)
		if ok != (n-4+6 <= 24) || ok && len(got) != n+2 || !ok && !slices.Equal(got, longStore(n-4)) {
			t.Errorf("6 entries beside %d: %+v, %v", n-4, got, ok)
		}
	}
}

// TestSnapshotsOfOtherExtensions restores entries that belong to others, or to extensions that are none.
func TestSnapshotsOfOtherExtensions(t *testing.T) {
	l := entries(1, 0, 5, 2, 2, 0, 6, 1, 2, 1, 7, 1, 3, 0, 8, 1)
	snapshot := func(ext int, numbers ...int) impl.Snapshot {
		return impl.Snapshot{Package: impl.Package{Ext: ext}, Entries: entries(numbers...)}
	}
	for i, c := range []struct {
		s    impl.Snapshot
		want []impl.Stored
	}{
		{snapshot(2, 2, 0, 9, 9), entries(1, 0, 5, 2, 2, 0, 9, 9, 3, 0, 8, 1)},
		{snapshot(2), entries(1, 0, 5, 2, 3, 0, 8, 1)},
		{snapshot(1, 1, 3, 3, 3), entries(1, 3, 3, 3, 2, 0, 6, 1, 2, 1, 7, 1, 3, 0, 8, 1)},
		{snapshot(3), entries(1, 0, 5, 2, 2, 0, 6, 1, 2, 1, 7, 1)},
		{snapshot(5, 5, 9, 9, 9), entries(1, 0, 5, 2, 2, 0, 6, 1, 2, 1, 7, 1, 3, 0, 8, 1, 5, 9, 9, 9)},
		{snapshot(4), l}, {snapshot(0), l}, {snapshot(6), l}, {snapshot(-1), l}, {snapshot(math.MaxInt), l}, {snapshot(math.MinInt), l},
		{snapshot(2, 1, 0, 5, 2), nil}, {snapshot(2, 2, 0, 6, 1, 3, 0, 8, 1), nil}, {snapshot(2, 1, 0, 5, 2, 2, 0, 6, 1), nil},
		{snapshot(4, 2, 0, 6, 1), nil}, {snapshot(0, 1, 0, 5, 2), nil}, {snapshot(0, 0, 0, 5, 2), nil}, {snapshot(6, 6, 0, 5, 2), nil},
		// Entries of others are none of the snapshot's, also where the result would be a store.
		{snapshot(4, 5, 0, 6, 1), nil}, {snapshot(4, 4, 0, 6, 1, 5, 0, 6, 1), nil}, {snapshot(3, 4, 0, 6, 1), nil}, {snapshot(3, 3, 0, 8, 1, 4, 0, 6, 1), nil}, {snapshot(6, 5, 0, 6, 1), nil}, {snapshot(2, 1, 1, 6, 1), nil},
		{snapshot(2, 2, 1, 5, 2, 2, 0, 6, 1), nil}, {snapshot(2, 2, 1, 5, 2, 2, 1, 5, 2), nil},
		{snapshot(2, 2, 10, 5, 2), nil}, {snapshot(2, 2, 0, 1000, 2), nil}, {snapshot(2, 2, 0, -1, 2), nil}, {snapshot(2, 2, 0, 5, 0), nil}, {snapshot(2, 2, 0, 5, 1000), nil},
	} {
		want, ok := c.want, c.want != nil
		if !ok {
			want = l
		}
		if got, gotOk := impl.RestoreStore(l, c.s); gotOk != ok || !slices.Equal(got, want) {
			t.Errorf("%d: RestoreStore(%+v) = %+v, %v", i, c.s, got, gotOk)
		}
	}
	if got, ok := impl.RestoreStore(nil, snapshot(2, 2, 0, 9, 9)); !ok || !slices.Equal(got, entries(2, 0, 9, 9)) {
		t.Errorf("into nothing: %+v, %v", got, ok)
	}
	if got, ok := impl.RestoreStore(nil, impl.Snapshot{}); !ok || len(got) != 0 {
		t.Errorf("nothing into nothing: %+v, %v", got, ok)
	}
}

// TestRestoreIntoNoStore restores over the entries that are wrong, and beside them.
func TestRestoreIntoNoStore(t *testing.T) {
	for why, l := range notStores() {
		for ext := range 7 {
			for _, own := range [][]impl.Stored{nil, entries(ext, 0, 1, 1)} {
				s := impl.Snapshot{Package: impl.Package{Ext: ext}, Entries: own}
				if got, ok := impl.RestoreStore(l, s); ok || !slices.Equal(got, l) {
					t.Errorf("%s: RestoreStore(%+v, %+v) = %+v, %v", why, l, s, got, ok)
				}
			}
		}
		s := impl.Snapshot{Package: impl.Package{Ext: 2}, Entries: l}
		if got, ok := impl.RestoreStore(longStore(2), s); ok || !slices.Equal(got, longStore(2)) {
			t.Errorf("%s as a snapshot: %+v, %v", why, got, ok)
		}
	}
	// All the entries of one extension are more than a store has.
	many := impl.Snapshot{Package: impl.Package{Ext: 1}}
	for i := range 25 {
		many.Entries = append(many.Entries, entry(1, i%10, 1, 1))
	}
	if got, ok := impl.RestoreStore(nil, many); ok || len(got) != 0 {
		t.Errorf("many: %+v, %v", got, ok)
	}
}

func TestCanRollBack(t *testing.T) {
	old, now := fine27(), next27(func(*impl.Package) {})
	for i, c := range []struct {
		key      int
		back, at impl.Package
		want     bool
	}{
		{5, old, now, true}, {5, now, old, false}, {5, old, old, false}, {77, old, now, false}, {0, old, now, false},
		{5, impl.Package{}, now, false}, {5, old, impl.Package{}, false},
		{5, old, next27(func(p *impl.Package) { p.Version = 999 }), true},
		{5, old, next27(func(p *impl.Package) { p.Version = 1000 }), false},
		{5, next27(func(p *impl.Package) { p.Version = 998 }), next27(func(p *impl.Package) { p.Version = 999 }), true},
		{5, next27(func(p *impl.Package) { p.Version = 999 }), next27(func(p *impl.Package) { p.Version = 999 }), false},
		// What is there now needs to be a package, but not to be sealed, fine or of the same author.
		{5, old, impl.Package{Ext: 1, Author: 9, Version: 2}, true},
		{5, old, impl.SealPackage(77, now), true},
		{5, old, next27(func(p *impl.Package) { p.Flows = nil }), true},
		{5, old, next27(func(p *impl.Package) { p.Ops = append(p.Ops, impl.Op{}) }), false},
		{5, old, impl.Package{Ext: 2, Author: 1, Version: 2}, false},
		{5, old, impl.Package{Ext: 6, Author: 1, Version: 2}, false},
		// What is gone back to needs to pass.
		{5, withFine(func(p *impl.Package) { p.Flows = nil }), now, false},
		{5, withFine(func(p *impl.Package) { p.Grants[2].Pattern.Sub = 5 }), now, false},
		{5, impl.SealPackage(77, old), now, false},
		{5, plain26(), now, false},
		{5, impl.SealPackage(5, plain26()), now, true},
	} {
		s := impl.Snapshot{Package: c.back, Entries: entries(9, 9, 9, 9)}
		if got := impl.CanRollBack(c.key, s, c.at); got != c.want {
			t.Errorf("%d: CanRollBack(%d, %+v, %+v) = %v", i, c.key, c.back, c.at, got)
		}
	}
}

func TestSnapshotText(t *testing.T) {
	for want, s := range map[string]impl.Snapshot{
		"0 0 0":    {},
		"1 1 2":    impl.TakeSnapshot(fine27(), longStore(2)),
		"5 999 0":  impl.TakeSnapshot(full26(), longStore(24)),
		"2 3 10":   impl.TakeSnapshot(pack26(), longStore(24)),
		"-1 -20 1": {Package: impl.Package{Ext: -1, Version: -20}, Entries: entries(0, 0, 0, 0)},
	} {
		if got := impl.SnapshotText(s); got != want {
			t.Errorf("SnapshotText(%+v) = %q, want %q", s, got, want)
		}
	}
}

func TestSnapshotsKeepTheirArguments(t *testing.T) {
	for _, p := range []impl.Package{fine27(), pack26(), {}} {
		for _, n := range []int{0, 3, 12, 24, 25} {
			keeps(t, "TakeSnapshot", impl.TakeSnapshot, p, longStore(n))
			s := impl.TakeSnapshot(p, longStore(12))
			keeps(t, "RestoreStore", impl.RestoreStore, longStore(n), s)
			keeps(t, "RestoreStore", impl.RestoreStore, longStore(n), impl.Snapshot{Package: impl.Package{Ext: 5}, Entries: entries(5, 0, 1, 1, 5, 1, 1, 1)})
			keeps(t, "SnapshotText", impl.SnapshotText, s)
			keeps(t, "CanRollBack", impl.CanRollBack, 5, s, next27(func(*impl.Package) {}))
		}
	}
}
