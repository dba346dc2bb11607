package tests

import (
	"math"
	"slices"
	"testing"

	"loop.example/g03001/impl"
)

// deed29 gives the extension 1 from the author 1 to 4, sealed with the keys 11 and 12.
func deed29() impl.Deed {
	return impl.SealDeed(impl.Deed{Ext: 1, From: 1, To: 4}, 11, 12)
}

func TestSealDeed(t *testing.T) {
	for _, d := range []impl.Deed{{}, {Ext: 1, From: 1, To: 4}, {Ext: 5, From: 9, To: 1, SealFrom: 44, SealTo: -44}, {Ext: 1, From: 2, To: 2}, {Ext: -1, From: math.MinInt, To: math.MaxInt}} {
		for _, from := range append([]int{1, 11, 2147483646}, notKeys...) {
			for _, to := range append([]int{1, 12, 2147483646}, notKeys...) {
				want := impl.Deed{Ext: d.Ext, From: d.From, To: d.To}
				if 1 <= from && from <= 2147483646 {
					want.SealFrom = impl.KeyedHash(from, []int{1, d.Ext, d.From, d.To})
				}
				if 1 <= to && to <= 2147483646 {
					want.SealTo = impl.KeyedHash(to, []int{2, d.Ext, d.From, d.To})
				}
				if got := impl.SealDeed(d, from, to); got != want {
					t.Errorf("SealDeed(%+v, %d, %d) = %+v, want %+v", d, from, to, got, want)
				}
			}
		}
	}
}

func TestIsDeed(t *testing.T) {
	around([][2]int{{1, 5}, {1, 9}, {1, 9}}, func(field int, n int, inside bool) {
		d := impl.Deed{Ext: 3, From: 5, To: 6}
		*[]*int{&d.Ext, &d.From, &d.To}[field] = n
		d = impl.SealDeed(d, 11, 12)
		if got := impl.IsDeed(d, 11, 12); got != (inside && d.From != d.To) {
			t.Errorf("IsDeed(%+v) = %v", d, got)
		}
	})
	// Both may have the same key.
	for _, keys := range [][2]int{{1, 1}, {11, 12}, {2147483646, 1}, {5, 2147483646}} {
		if d := impl.SealDeed(deed29(), keys[0], keys[1]); !impl.IsDeed(d, keys[0], keys[1]) {
			t.Errorf("with the keys %v: %+v is none", keys, d)
		}
	}
	for _, key := range notKeys {
		for _, keys := range [][2]int{{key, 12}, {11, key}, {key, key}} {
			d := impl.SealDeed(deed29(), keys[0], keys[1])
			hashed := d
			hashed.SealFrom, hashed.SealTo = impl.KeyedHash(keys[0], []int{1, 1, 1, 4}), impl.KeyedHash(keys[1], []int{2, 1, 1, 4})
			if impl.IsDeed(d, keys[0], keys[1]) || impl.IsDeed(hashed, keys[0], keys[1]) {
				t.Errorf("with the keys %v: %+v", keys, d)
			}
		}
	}
	if impl.IsDeed(impl.Deed{}, 11, 12) || impl.IsDeed(impl.Deed{}, 0, 0) {
		t.Error("the zero deed is one")
	}
}

// TestDeedsFromAnAuthorToThemselves are no deeds, however they are sealed.
func TestDeedsFromAnAuthorToThemselves(t *testing.T) {
	for author := 1; author <= 9; author++ {
		for _, keys := range [][2]int{{11, 11}, {11, 12}, {12, 11}} {
			d := impl.SealDeed(impl.Deed{Ext: 1, From: author, To: author}, keys[0], keys[1])
			if impl.IsDeed(d, keys[0], keys[1]) {
				t.Errorf("%+v is a deed", d)
			}
			p := withFine(func(p *impl.Package) { p.Author = author })
			if got, ok := impl.Transfer(5, p, d, keys[0], keys[1]); ok || !alike(got, p) {
				t.Errorf("by %+v: %+v, %v", d, got, ok)
			}
			if got := impl.Chain([]impl.Deed{d}, 1, author); got != author {
				t.Errorf("after %+v: %d", d, got)
			}
		}
	}
}

// TestAnExtensionChangesHandsOnlyIfBothAgree lets only one of both seal, or somebody else, or something else.
func TestAnExtensionChangesHandsOnlyIfBothAgree(t *testing.T) {
	p := fine27()
	d := deed29()
	want := cloned(p)
	want.Author = 4
	want = impl.SealPackage(5, want)
	got, ok := impl.Transfer(5, p, d, 11, 12)
	if !ok || !alike(got, want) || !impl.IsSealed(5, got) || got.Author != 4 {
		t.Fatalf("Transfer = %+v, %v", got, ok)
	}
	refused := func(what string, key int, p impl.Package, d impl.Deed, keyFrom int, keyTo int) {
		t.Helper()
		if got, ok := impl.Transfer(key, p, d, keyFrom, keyTo); ok || !alike(got, p) {
			t.Errorf("%s: Transfer(%d, %+v, %+v, %d, %d) = %+v, %v", what, key, p, d, keyFrom, keyTo, got, ok)
		}
	}
	for _, x := range variants(d) {
		refused("a deed with another "+x.where, 5, p, x.value, 11, 12)
		if impl.IsDeed(x.value, 11, 12) {
			t.Errorf("%s: %+v is a deed", x.where, x.value)
		}
	}
	for _, x := range variants(p) {
		refused("a package with another "+x.where, 5, x.value, d, 11, 12)
	}
	for _, keys := range [][2]int{{12, 11}, {11, 11}, {12, 12}, {11, 13}, {13, 12}, {0, 12}, {11, 0}} {
		refused("not the keys of both", 5, p, d, keys[0], keys[1])
		sealed := impl.SealDeed(d, keys[0], keys[1])
		if keys[0] > 0 && keys[1] > 0 {
			if got, ok := impl.Transfer(5, p, sealed, keys[0], keys[1]); !ok || !alike(got, want) {
				t.Errorf("with the keys %v of both: %+v, %v", keys, got, ok)
			}
		}
		refused("sealed by others", 5, p, sealed, 11, 12)
	}
	// The seals of both are not the same, so neither of both can agree in the name of the other one.
	swapped := d
	swapped.SealFrom, swapped.SealTo = d.SealTo, d.SealFrom
	refused("swapped seals", 5, p, swapped, 12, 11)
	one := impl.SealDeed(d, 11, 11)
	one.SealTo = one.SealFrom
	refused("one seal twice", 5, p, one, 11, 11)
	for _, key := range append([]int{1, 4, 6, 77}, notKeys...) {
		refused("another key", key, p, d, 11, 12)
	}
	for why, q := range notPackages() {
		q.Ext, q.Author = 1, 1
		if !impl.IsPackage(q) {
			refused(why, 5, impl.SealPackage(5, q), d, 11, 12)
		}
	}
	for i, other := range []impl.Deed{{Ext: 2, From: 1, To: 4}, {Ext: 1, From: 2, To: 4}, {Ext: 1, From: 4, To: 1}, {Ext: 6, From: 1, To: 4}, {Ext: 1, From: 1, To: 10}, {Ext: 1, From: 1, To: 0}} {
		refused("a deed about something else "+string(rune('a'+i)), 5, p, impl.SealDeed(other, 11, 12), 11, 12)
	}
	// Who has it now can hand it on, and the one from before cannot again.
	refused("the same deed again", 5, got, d, 11, 12)
	back := impl.SealDeed(impl.Deed{Ext: 1, From: 4, To: 1}, 12, 11)
	if again, ok := impl.Transfer(5, got, back, 12, 11); !ok || !alike(again, p) {
		t.Errorf("back again: %+v, %v", again, ok)
	}
}

func TestTransferOfAllAuthors(t *testing.T) {
	for n := range 5 * 9 * 9 {
		ext, from, to := 1+n%5, 1+n/5%9, 1+n/45
		p := impl.SealPackage(5, impl.Package{Ext: ext, Author: from, Version: 7})
		d := impl.SealDeed(impl.Deed{Ext: ext, From: from, To: to}, 20+from, 20+to)
		got, ok := impl.Transfer(5, p, d, 20+from, 20+to)
		want := p
		if from != to {
			want = impl.SealPackage(5, impl.Package{Ext: ext, Author: to, Version: 7})
		}
		if ok != (from != to) || !alike(got, want) {
			t.Errorf("%d from %d to %d: %+v, %v", ext, from, to, got, ok)
		}
	}
}

func TestChain(t *testing.T) {
	deeds := func(numbers ...int) []impl.Deed {
		l := []impl.Deed{}
		for n := range slices.Chunk(numbers, 3) {
			l = append(l, impl.Deed{Ext: n[0], From: n[1], To: n[2]})
		}
		return l
	}
	for i, c := range []struct {
		l               []impl.Deed
		ext, from, want int
	}{
		{nil, 1, 4, 4}, {nil, 0, -7, -7}, {deeds(1, 1, 2), 1, 1, 2}, {deeds(1, 1, 2), 2, 1, 1}, {deeds(1, 1, 2), 1, 2, 2},
		{deeds(1, 1, 2, 1, 2, 3, 1, 3, 4), 1, 1, 4}, {deeds(1, 3, 4, 1, 2, 3, 1, 1, 2), 1, 1, 2}, {deeds(1, 1, 2, 2, 2, 5, 1, 3, 6, 1, 2, 3), 1, 1, 3},
		{deeds(1, 1, 2, 1, 2, 1, 1, 1, 2), 1, 1, 2}, {deeds(1, 1, 2, 1, 1, 3), 1, 1, 2}, {deeds(1, 1, 1, 1, 1, 3), 1, 1, 3},
		// Neither the seals nor the numbers are asked for.
		{deeds(9, 0, 77, 9, 77, -5), 9, 0, -5}, {[]impl.Deed{{Ext: 1, From: 1, To: 2, SealFrom: 9}, {Ext: 1, From: 2, To: 8, SealTo: -1}}, 1, 1, 8},
		{deeds(1, math.MinInt, math.MaxInt), 1, math.MinInt, math.MaxInt},
	} {
		if got := impl.Chain(c.l, c.ext, c.from); got != c.want {
			t.Errorf("%d: Chain(%+v, %d, %d) = %d, want %d", i, c.l, c.ext, c.from, got, c.want)
		}
	}
}

func TestTransfersKeepTheirArguments(t *testing.T) {
	for _, p := range []impl.Package{fine27(), pack26(), {}} {
		for _, d := range []impl.Deed{deed29(), {}} {
			keeps(t, "Transfer", impl.Transfer, 5, p, d, 11, 12)
		}
	}
	keeps(t, "Chain", impl.Chain, []impl.Deed{deed29(), {}}, 1, 1)
}
