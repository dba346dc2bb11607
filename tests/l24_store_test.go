package tests

import (
	"cmp"
	"math"
	"slices"
	"testing"

	"loop.example/g03001/impl"
)

func entry(ext int, name int, value int, ver int) impl.Stored {
	return impl.Stored{Ext: ext, Name: name, Value: value, Ver: ver}
}

// entries makes a list of four numbers for each: Ext, Name, Value and Ver.
func entries(numbers ...int) []impl.Stored {
	l := []impl.Stored{}
	for n := range slices.Chunk(numbers, 4) {
		l = append(l, entry(n[0], n[1], n[2], n[3]))
	}
	return l
}

// key24 is what there is at most one entry for.
type key24 struct{ ext, name int }

// store24 makes a store of the entries of a map.
func store24(byKey map[key24]impl.Stored) []impl.Stored {
	l := []impl.Stored{}
	for ext := 1; ext <= 5; ext++ {
		for name := range 10 {
			if x, ok := byKey[key24{ext, name}]; ok {
				l = append(l, x)
			}
		}
	}
	return l
}

// someStore returns a store of up to n entries, of which many are much like those of other stores.
func someStore(roll func(n int) int, n int) []impl.Stored {
	byKey := map[key24]impl.Stored{}
	for range roll(n + 1) {
		k := key24{1 + roll(5), roll(4)}
		byKey[k] = impl.Stored{Ext: k.ext, Name: k.name, Value: roll(3), Ver: 1 + roll(3)}
	}
	return store24(byKey)
}

// longStore has n entries, of the Ver 5.
func longStore(n int) []impl.Stored {
	l := []impl.Stored{}
	for i := range n {
		l = append(l, impl.Stored{Ext: 1 + i/10, Name: i % 10, Value: i, Ver: 5})
	}
	return l
}

// notStores has lists that are no stores, each for one reason.
func notStores() map[string][]impl.Stored {
	with := func(i int, change func(x *impl.Stored)) []impl.Stored {
		l := []impl.Stored{{Ext: 1, Name: 4, Ver: 1}, {Ext: 2, Name: 2, Value: 7, Ver: 3}, {Ext: 2, Name: 3, Value: 7, Ver: 3}}
		change(&l[i])
		return l
	}
	out := map[string][]impl.Stored{
		"too many":       longStore(25),
		"far too many":   longStore(50),
		"the zero entry": {{}},
		"same key":       with(1, func(x *impl.Stored) { x.Name = 3 }),
		"lesser Name":    with(2, func(x *impl.Stored) { x.Name = 1 }),
		"lesser Ext":     with(2, func(x *impl.Stored) { x.Ext = 1 }),
		"Ext falls":      with(0, func(x *impl.Stored) { x.Ext = 3 }),
		"twice":          {{Ext: 1, Ver: 1}, {Ext: 1, Ver: 1}},
	}
	for i, at := range []string{"first", "second", "last"} {
		out["Ext 0 at the "+at] = with(i, func(x *impl.Stored) { x.Ext = 0 })
		out["Ext 6 at the "+at] = with(i, func(x *impl.Stored) { x.Ext = 6 })
		out["Name -1 at the "+at] = with(i, func(x *impl.Stored) { x.Name = -1 })
		out["Name 10 at the "+at] = with(i, func(x *impl.Stored) { x.Name = 10 })
		out["Value -1 at the "+at] = with(i, func(x *impl.Stored) { x.Value = -1 })
		out["Value 1000 at the "+at] = with(i, func(x *impl.Stored) { x.Value = 1000 })
		out["Ver 0 at the "+at] = with(i, func(x *impl.Stored) { x.Ver = 0 })
		out["Ver 1000 at the "+at] = with(i, func(x *impl.Stored) { x.Ver = 1000 })
		out["Ver MinInt at the "+at] = with(i, func(x *impl.Stored) { x.Ver = math.MinInt })
	}
	return out
}

func TestIsStore(t *testing.T) {
	if impl.MaxStored != 24 || impl.MaxVer != 999 {
		t.Error(impl.MaxStored, impl.MaxVer)
	}
	around([][2]int{{1, 5}, {0, 9}, {0, 999}, {1, 999}}, func(field int, n int, inside bool) {
		x := impl.Stored{Ext: 3, Name: 3, Value: 3, Ver: 3}
		*[]*int{&x.Ext, &x.Name, &x.Value, &x.Ver}[field] = n
		if got := impl.IsStore([]impl.Stored{x}); got != inside {
			t.Errorf("IsStore of %+v: %v", x, got)
		}
	})
	for n := range 25 {
		if !impl.IsStore(longStore(n)) {
			t.Errorf("%d entries are no store", n)
		}
	}
	if !impl.IsStore(nil) || !impl.IsStore([]impl.Stored{}) || !impl.IsStore(entries(1, 9, 999, 999, 2, 0, 0, 1, 2, 1, 0, 1, 5, 0, 0, 1)) {
		t.Error("a store is none")
	}
	for why, l := range notStores() {
		if impl.IsStore(l) {
			t.Errorf("%s: %+v is a store", why, l)
		}
	}
}

func TestGetStored(t *testing.T) {
	l := entries(1, 0, 7, 1, 1, 9, 999, 1, 5, 0, 0, 1, 1, 0, 8, 9, 0, 0, 3, 0, 6, -1, -5, 0, 5, 1, 2, 1)
	for i, c := range []struct {
		ext, name, want int
		ok              bool
	}{
		{1, 0, 7, true}, {1, 9, 999, true}, {5, 0, 0, true}, {0, 0, 3, true}, {6, -1, -5, true}, {5, 1, 2, true},
		{1, 1, 0, false}, {2, 0, 0, false}, {9, 1, 0, false}, {math.MinInt, 0, 0, false}, {1, math.MaxInt, 0, false},
	} {
		if got, ok := impl.GetStored(l, c.ext, c.name); got != c.want || ok != c.ok {
			t.Errorf("%d: GetStored(%d, %d) = %d, %v", i, c.ext, c.name, got, ok)
		}
	}
	if got, ok := impl.GetStored(nil, 1, 0); got != 0 || ok {
		t.Errorf("of nothing: %d, %v", got, ok)
	}
}

// TestPutStored puts values at all keys of many stores, and gets them again.
func TestPutStored(t *testing.T) {
	roll := dice(24)
	for range 300 {
		l := someStore(roll, 24)
		for n := range 7 * 12 {
			ext, name, value := n%7, n/7-1, roll(1002)-1
			byKey := map[key24]impl.Stored{}
			for _, x := range l {
				byKey[key24{x.Ext, x.Name}] = x
			}
			was := byKey[key24{ext, name}]
			byKey[key24{ext, name}] = impl.Stored{Ext: ext, Name: name, Value: value, Ver: was.Ver + 1}
			want := ext >= 1 && ext <= 5 && name >= 0 && name <= 9 && value >= 0 && value <= 999 && len(byKey) <= 24
			wanted := l
			if want {
				wanted = store24(byKey)
			}
			got, ok := impl.PutStored(l, ext, name, value)
			if ok != want || !slices.Equal(got, wanted) {
				t.Fatalf("PutStored(%+v, %d, %d, %d) = %+v, %v", l, ext, name, value, got, ok)
			}
			if now, there := impl.GetStored(got, ext, name); ok && (now != value || !there || !impl.IsStore(got)) {
				t.Fatalf("PutStored(%+v, %d, %d, %d): then there is %d", l, ext, name, value, now)
			}
		}
	}
}

func TestPutStoredUpToTheLimits(t *testing.T) {
	l := entries(1, 0, 7, 998, 2, 0, 7, 999)
	if got, ok := impl.PutStored(l, 1, 0, 7); !ok || !slices.Equal(got, entries(1, 0, 7, 999, 2, 0, 7, 999)) {
		t.Errorf("the last version: %+v, %v", got, ok)
	}
	if got, ok := impl.PutStored(l, 2, 0, 8); ok || !slices.Equal(got, l) {
		t.Errorf("beyond the last version: %+v, %v", got, ok)
	}
	for n := 22; n <= 26; n++ {
		l := longStore(n)
		got, ok := impl.PutStored(l, 5, 9, 1)
		if ok != (n < 24) || ok && len(got) != n+1 || !ok && !slices.Equal(got, l) {
			t.Errorf("one more than %d entries: %d, %v", n, len(got), ok)
		}
		got, ok = impl.PutStored(l, 1, 5, 1)
		if ok != (n <= 24) || ok && (len(got) != n || got[5].Ver != 6) || !ok && !slices.Equal(got, l) {
			t.Errorf("again in %d entries: %d, %v", n, len(got), ok)
		}
	}
	for i, c := range [][3]int{{0, 1, 1}, {6, 1, 1}, {1, -1, 1}, {1, 10, 1}, {1, 1, -1}, {1, 1, 1000}, {math.MinInt, 1, 1}, {1, math.MaxInt, 1}, {1, 0, math.MaxInt}} {
		if got, ok := impl.PutStored(l, c[0], c[1], c[2]); ok || !slices.Equal(got, l) {
			t.Errorf("%d: PutStored(%v) = %+v, %v", i, c, got, ok)
		}
	}
}

// TestPutStoredIntoNoStore puts values over those that are the reason why a list is no store, and beside them.
func TestPutStoredIntoNoStore(t *testing.T) {
	lists := notStores()
	lists["only Value 1000"] = entries(1, 0, 1000, 1)
	lists["only Ver 0"] = entries(1, 0, 5, 0)
	lists["only Value -1"] = entries(1, 0, -1, 4, 2, 3, 4, 1)
	lists["only Ver -1"] = entries(1, 0, 5, -1)
	lists["only Ver 1000"] = entries(1, 0, 5, 1000)
	lists["the greatest Ver"] = entries(1, 0, 1, math.MaxInt)
	lists["Ext falls to 1"] = entries(2, 0, 1, 1, 1, 0, 1, 1)
	lists["Name falls"] = entries(1, 1, 1, 1, 1, 0, 1, 1, 2, 0, 1, 1)
	lists["same key twice"] = entries(2, 0, 1, 1, 2, 0, 1, 1)
	for why, l := range lists {
		keys := []key24{{1, 0}, {1, 1}, {1, 5}, {2, 0}, {2, 1}, {2, 5}, {3, 3}, {5, 9}}
		for _, x := range l {
			keys = append(keys, key24{x.Ext, x.Name})
		}
		for _, k := range keys {
			for _, value := range []int{0, 1, 7, 999, 1000} {
				if got, ok := impl.PutStored(l, k.ext, k.name, value); ok || !slices.Equal(got, l) {
					t.Errorf("%s: PutStored(%+v, %v, %d) = %+v, %v", why, l, k, value, got, ok)
				}
			}
		}
	}
}

// TestMergingDoesNotDependOnTheOrder merges three stores in all ways.
func TestMergingDoesNotDependOnTheOrder(t *testing.T) {
	roll := dice(240)
	merge := func(a []impl.Stored, b []impl.Stored) []impl.Stored {
		t.Helper()
		best := map[key24]impl.Stored{}
		for _, x := range append(slices.Clone(a), b...) {
			k := key24{x.Ext, x.Name}
			if was, ok := best[k]; !ok || cmp.Or(cmp.Compare(x.Ver, was.Ver), cmp.Compare(x.Value, was.Value)) > 0 {
				best[k] = x
			}
		}
		got, ok := impl.MergeStores(a, b)
		if !ok || !slices.Equal(got, store24(best)) || !impl.IsStore(got) {
			t.Fatalf("MergeStores(%+v, %+v) = %+v, %v", a, b, got, ok)
		}
		return got
	}
	for range 3000 {
		a, b, c := someStore(roll, 14), someStore(roll, 14), someStore(roll, 14)
		if !slices.Equal(merge(a, b), merge(b, a)) || !slices.Equal(merge(a, a), a) || !slices.Equal(merge(a, nil), a) || !slices.Equal(merge(nil, a), a) {
			t.Fatalf("%+v and %+v", a, b)
		}
		if !slices.Equal(merge(merge(a, b), c), merge(a, merge(c, b))) || !slices.Equal(merge(merge(a, b), b), merge(a, b)) {
			t.Fatalf("%+v, %+v and %+v", a, b, c)
		}
	}
}

// TestStoresWithEqualVersions merges entries of one key.
func TestStoresWithEqualVersions(t *testing.T) {
	for i, c := range []struct{ a, b, want impl.Stored }{
		{entry(1, 0, 5, 2), entry(1, 0, 6, 2), entry(1, 0, 6, 2)}, {entry(1, 0, 5, 2), entry(1, 0, 5, 2), entry(1, 0, 5, 2)},
		{entry(1, 0, 5, 2), entry(1, 0, 6, 1), entry(1, 0, 5, 2)}, {entry(1, 0, 5, 2), entry(1, 0, 4, 3), entry(1, 0, 4, 3)},
		{entry(1, 0, 0, 999), entry(1, 0, 999, 998), entry(1, 0, 0, 999)}, {entry(1, 0, 999, 999), entry(1, 0, 998, 999), entry(1, 0, 999, 999)},
	} {
		for _, l := range [][2]impl.Stored{{c.a, c.b}, {c.b, c.a}} {
			if got, ok := impl.MergeStores(l[:1], l[1:]); !ok || !slices.Equal(got, []impl.Stored{c.want}) {
				t.Errorf("%d: MergeStores(%+v) = %+v, %v", i, l, got, ok)
			}
		}
	}
}

func TestMergeStoresThatAreNone(t *testing.T) {
	good := longStore(3)
	for why, l := range notStores() {
		for _, pair := range [][2][]impl.Stored{{l, good}, {good, l}, {l, nil}, {nil, l}, {l, l}} {
			if got, ok := impl.MergeStores(pair[0], pair[1]); ok || len(got) != 0 {
				t.Errorf("%s: MergeStores(%+v, %+v) = %+v, %v", why, pair[0], pair[1], got, ok)
			}
		}
	}
	// What is wrong is older than an entry of the other list, so the result would be a store.
	fresh := entries(1, 4, 5, 9, 2, 2, 5, 9, 2, 3, 5, 9)
	for i, l := range [][]impl.Stored{entries(1, 4, 1000, 1), entries(2, 2, -1, 8), entries(2, 3, 0, 0), entries(1, 4, 0, -1, 2, 2, 5, 1)} {
		for _, pair := range [][2][]impl.Stored{{l, fresh}, {fresh, l}} {
			if got, ok := impl.MergeStores(pair[0], pair[1]); ok || len(got) != 0 {
				t.Errorf("%d: MergeStores(%+v, %+v) = %+v, %v", i, pair[0], pair[1], got, ok)
			}
		}
	}
	for n := 2; n <= 24; n++ {
		high := longStore(24 + n)[24:]
		for k := range 25 {
			got, ok := impl.MergeStores(longStore(k), high)
			if back, okBack := impl.MergeStores(high, longStore(k)); okBack != ok || !slices.Equal(back, got) {
				t.Errorf("%d and %d entries depend on the order", k, n)
			}
			if ok != (k+n <= 24) || ok && len(got) != k+n || !ok && len(got) != 0 {
				t.Errorf("%d and %d entries: %d, %v", k, n, len(got), ok)
			}
		}
	}
	if got, ok := impl.MergeStores(longStore(24), longStore(24)); !ok || !slices.Equal(got, longStore(24)) {
		t.Errorf("a full store with itself: %+v, %v", got, ok)
	}
	if got, ok := impl.MergeStores(nil, nil); !ok || len(got) != 0 {
		t.Errorf("nothing with nothing: %+v, %v", got, ok)
	}
}

func TestDropStored(t *testing.T) {
	l := entries(2, 1, 1, 1, 1, 9, 9, 9, 2, 0, 0, 0, 0, 0, 0, 0, 6, 6, 6, 6, 3, 0, 0, 1)
	checkPicked(t, "DropStored", impl.DropStored, l, func(x impl.Stored, ext int) bool { return x.Ext != ext })
	if len(impl.DropStored(longStore(9), 1)) != 0 {
		t.Error("something is left")
	}
}

func TestStoresKeepTheirArguments(t *testing.T) {
	for _, n := range []int{0, 1, 3, 12, 24, 25} {
		a, checkA := guard(t, longStore(n), entry(5, 8, 1, 1))
		b, checkB := guard(t, longStore(max(n, 2))[n/2:], entry(5, 8, 2, 1))
		check := func(what string) {
			t.Helper()
			checkA(what)
			checkB(what)
		}
		for _, c := range [][3]int{{1, 0, 3}, {5, 9, 3}, {1, 5, 3}, {9, 9, 9}} {
			got, _ := impl.PutStored(a, c[0], c[1], c[2])
			scribble(got, impl.Stored{Ext: -9})
			check("PutStored")
		}
		for _, pair := range [][2][]impl.Stored{{a, b}, {b, a}, {a, nil}, {nil, a}} {
			got, _ := impl.MergeStores(pair[0], pair[1])
			scribble(got, impl.Stored{Ext: -9})
			check("MergeStores")
		}
		// What lies behind a store is no part of it.
		if _, ok := impl.GetStored(a, 5, 8); ok || impl.IsStore(a) != (n <= 24) {
			t.Error("an entry too many")
		}
		check("IsStore")
	}
}
