package tests

import (
	"math"
	"slices"
	"testing"

	"loop.example/g03001/impl"
)

func TestOpenWindow(t *testing.T) {
	for _, private := range []bool{false, true} {
		for n := range 27 {
			got := impl.OpenWindow(longStore(n), private)
			want := impl.Window{Private: private, Base: longStore(n)}
			if n > 24 {
				want = impl.Window{}
			}
			if !alike(got, want) {
				t.Errorf("OpenWindow of %d entries, %v: %+v", n, private, got)
			}
		}
		for why, l := range notStores() {
			if got := impl.OpenWindow(l, private); !isZero(got) {
				t.Errorf("%s: OpenWindow(%+v, %v) = %+v", why, l, private, got)
			}
		}
	}
}

func TestReadWindow(t *testing.T) {
	// Own comes first, in windows of both kinds, and neither has to be a store.
	for _, private := range []bool{false, true} {
		w := impl.Window{Private: private, Base: entries(1, 0, 5, 1, 1, 1, 6, 1, 9, 9, -4, 0), Own: entries(1, 1, 7, 3, 1, 2, 0, 1, 1, 2, 8, 1, 0, 0, 3, 3)}
		for i, c := range []struct {
			ext, name, want int
			ok              bool
		}{
			{1, 0, 5, true}, {1, 1, 7, true}, {1, 2, 0, true}, {9, 9, -4, true}, {0, 0, 3, true},
			{2, 0, 0, false}, {1, 3, 0, false}, {0, 1, 0, false}, {math.MinInt, math.MaxInt, 0, false},
		} {
			if got, ok := impl.ReadWindow(w, c.ext, c.name); got != c.want || ok != c.ok {
				t.Errorf("%d: ReadWindow(%d, %d) = %d, %v", i, c.ext, c.name, got, ok)
			}
		}
		if got, ok := impl.ReadWindow(impl.Window{Private: private}, 1, 0); got != 0 || ok {
			t.Errorf("of an empty window: %d, %v", got, ok)
		}
	}
}

// TestNothingOfAPrivateWindowRemains writes at random into windows of both kinds and keeps maps of what must be there.
func TestNothingOfAPrivateWindowRemains(t *testing.T) {
	roll := dice(25)
	for range 400 {
		base := someStore(roll, 20)
		private := roll(2) == 0
		w := impl.OpenWindow(base, private)
		lists := [2]map[key24]impl.Stored{{}, {}}
		for _, x := range base {
			lists[0][key24{x.Ext, x.Name}] = x
		}
		written := lists[0]
		if private {
			written = lists[1]
		}
		for range 40 {
			k, value := key24{roll(7), roll(12) - 1}, roll(1002)-1
			before := cloned(w)
			var ok bool
			w, ok = impl.WriteWindow(w, k.ext, k.name, value)
			was, there := written[k]
			inRange := 1 <= k.ext && k.ext <= 5 && 0 <= k.name && k.name <= 9 && 0 <= value && value <= 999
			if want := inRange && (there || len(written) < 24); ok != want {
				t.Fatalf("WriteWindow(%+v, %v, %d): %v", before, k, value, ok)
			}
			if !ok && !alike(w, before) {
				t.Fatalf("WriteWindow(%+v, %v, %d) fails and returns %+v", before, k, value, w)
			}
			if ok {
				written[k] = impl.Stored{Ext: k.ext, Name: k.name, Value: value, Ver: was.Ver + 1}
			}
			if w.Private != private || !slices.Equal(w.Base, store24(lists[0])) || !slices.Equal(w.Own, store24(lists[1])) {
				t.Fatalf("WriteWindow(%+v, %v, %d) = %+v, %v", before, k, value, w, ok)
			}
			if private && !slices.Equal(impl.CloseWindow(w), base) {
				t.Fatalf("of %+v remains %+v, of %+v", w, impl.CloseWindow(w), base)
			}
		}
		for ext := range 7 {
			for name := range 11 {
				want, there := lists[1][key24{ext, name}]
				if !there {
					want, there = lists[0][key24{ext, name}]
				}
				if got, ok := impl.ReadWindow(w, ext, name); ok != there || got != want.Value {
					t.Fatalf("ReadWindow(%+v, %d, %d) = %d, %v", w, ext, name, got, ok)
				}
			}
		}
		if !slices.Equal(impl.CloseWindow(w), store24(lists[0])) {
			t.Fatalf("CloseWindow(%+v) = %+v", w, impl.CloseWindow(w))
		}
	}
}

// TestPrivateWindowsThatWriteWhatIsThere writes at keys of the base, whatever their versions are.
func TestPrivateWindowsThatWriteWhatIsThere(t *testing.T) {
	base := entries(1, 0, 5, 1, 1, 1, 6, 999, 2, 0, 7, 998)
	w := impl.OpenWindow(base, true)
	for i, c := range []struct {
		ext, name, value int
		own              []impl.Stored
	}{
		{1, 0, 5, entries(1, 0, 5, 1)},
		{1, 1, 9, entries(1, 0, 5, 1, 1, 1, 9, 1)},
		{1, 1, 6, entries(1, 0, 5, 1, 1, 1, 6, 2)},
		{2, 0, 0, entries(1, 0, 5, 1, 1, 1, 6, 2, 2, 0, 0, 1)},
	} {
		var ok bool
		w, ok = impl.WriteWindow(w, c.ext, c.name, c.value)
		v, there := impl.ReadWindow(w, c.ext, c.name)
		if !ok || !slices.Equal(w.Own, c.own) || v != c.value || !there || !slices.Equal(w.Base, base) || !slices.Equal(impl.CloseWindow(w), base) {
			t.Errorf("%d: %+v", i, w)
		}
	}
	// In a window that is not private the entry of the last version cannot be written.
	shared := impl.OpenWindow(base, false)
	if got, ok := impl.WriteWindow(shared, 1, 1, 9); ok || !alike(got, shared) {
		t.Errorf("beyond the last version: %+v, %v", got, ok)
	}
	if got, ok := impl.WriteWindow(shared, 2, 0, 9); !ok || len(got.Own) != 0 || !slices.Equal(impl.CloseWindow(got), entries(1, 0, 5, 1, 1, 1, 6, 999, 2, 0, 9, 999)) {
		t.Errorf("the last version: %+v, %v", got, ok)
	}
}

// TestWindowsUpToTheLimits fills the list that is written to and the other one.
func TestWindowsUpToTheLimits(t *testing.T) {
	for n := 22; n <= 26; n++ {
		for _, private := range []bool{false, true} {
			written := impl.Window{Private: private, Base: longStore(n)}
			if private {
				written = impl.Window{Private: private, Own: longStore(n)}
			}
			got, ok := impl.WriteWindow(written, 5, 9, 1)
			if ok != (n < 24) || !ok && !alike(got, written) || ok && len(got.Base)+len(got.Own) != n+1 {
				t.Errorf("one more than %d entries, %v: %+v, %v", n, private, got, ok)
			}
			got, ok = impl.WriteWindow(written, 1, 5, 1)
			if ok != (n <= 24) || !ok && !alike(got, written) {
				t.Errorf("again in %d entries, %v: %+v, %v", n, private, got, ok)
			}
			// What is not written to may be full.
			other := impl.Window{Private: private, Own: longStore(n)}
			if private {
				other = impl.Window{Private: private, Base: longStore(n)}
			}
			if got, ok := impl.WriteWindow(other, 5, 9, 1); !ok || len(got.Base)+len(got.Own) != n+1 {
				t.Errorf("beside %d entries, %v: %+v, %v", n, private, got, ok)
			}
		}
	}
}

// TestWriteWindowIntoNoStore writes over the wrong entries, and beside them.
func TestWriteWindowIntoNoStore(t *testing.T) {
	lists := notStores()
	lists["only Value 1000"] = entries(1, 0, 1000, 1)
	lists["only Ver 0"] = entries(1, 0, 5, 0)
	lists["the greatest Ver"] = entries(1, 0, 1, math.MaxInt)
	for why, l := range lists {
		keys := []key24{{1, 0}, {2, 2}, {5, 9}}
		for _, x := range l {
			keys = append(keys, key24{x.Ext, x.Name})
		}
		for _, k := range keys {
			for _, w := range []impl.Window{{Private: true, Own: l}, {Private: true, Base: longStore(3), Own: l}, {Base: l}, {Base: l, Own: longStore(3)}} {
				if got, ok := impl.WriteWindow(w, k.ext, k.name, 7); ok || !alike(got, w) {
					t.Errorf("%s: WriteWindow(%+v, %v) = %+v, %v", why, w, k, got, ok)
				}
			}
		}
		// The list that is not written to is not asked.
		if got, ok := impl.WriteWindow(impl.Window{Private: true, Base: l}, 1, 0, 7); !ok || !slices.Equal(got.Own, entries(1, 0, 7, 1)) || !slices.Equal(got.Base, l) {
			t.Errorf("%s as Base of a private window: %+v, %v", why, got, ok)
		}
		if got, ok := impl.WriteWindow(impl.Window{Own: l}, 1, 0, 7); !ok || !slices.Equal(got.Base, entries(1, 0, 7, 1)) || !slices.Equal(got.Own, l) {
			t.Errorf("%s as Own of a window: %+v, %v", why, got, ok)
		}
		if got := impl.CloseWindow(impl.Window{Private: true, Base: l, Own: longStore(2)}); !slices.Equal(got, l) {
			t.Errorf("%s: CloseWindow = %+v", why, got)
		}
	}
	w := impl.OpenWindow(longStore(2), true)
	for i, c := range [][3]int{{0, 1, 1}, {6, 1, 1}, {1, -1, 1}, {1, 10, 1}, {1, 1, -1}, {1, 1, 1000}, {math.MinInt, 1, 1}, {1, math.MaxInt, 1}, {1, 0, math.MaxInt}} {
		if got, ok := impl.WriteWindow(w, c[0], c[1], c[2]); ok || !alike(got, w) {
			t.Errorf("%d: WriteWindow(%v) = %+v, %v", i, c, got, ok)
		}
	}
}

func TestEqualStores(t *testing.T) {
	checkEqual(t, "EqualStores", impl.EqualStores, [][]impl.Stored{
		{}, {{}}, {{}, {}}, entries(1, 0, 0, 0), entries(0, 1, 0, 0), entries(0, 0, 1, 0), entries(0, 0, 0, 1),
		entries(1, 0, 5, 1, 1, 1, 6, 1), entries(1, 1, 6, 1, 1, 0, 5, 1), longStore(24), longStore(25),
	})
}

func TestWindowsKeepTheirArguments(t *testing.T) {
	for _, n := range []int{0, 1, 5, 24, 25} {
		keeps(t, "OpenWindow", impl.OpenWindow, longStore(n), true)
		keeps(t, "OpenWindow", impl.OpenWindow, longStore(n), false)
		keeps(t, "EqualStores", impl.EqualStores, longStore(n), longStore(5))
		for _, private := range []bool{false, true} {
			w := impl.Window{Private: private, Base: longStore(n), Own: longStore(3)}
			keeps(t, "ReadWindow", impl.ReadWindow, w, 1, 0)
			keeps(t, "CloseWindow", impl.CloseWindow, w)
			for _, c := range [][3]int{{1, 0, 3}, {5, 9, 3}, {9, 9, 9}} {
				keeps(t, "WriteWindow", impl.WriteWindow, w, c[0], c[1], c[2])
			}
		}
	}
}
