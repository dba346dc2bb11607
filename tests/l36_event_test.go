package tests

import (
	"math"
	"testing"

	"loop.example/g03001/impl"
)

// happened calls the function that an event stands for.
func happened(b impl.Browser, e impl.Event) (impl.Browser, bool) {
	switch e.Kind {
	case impl.EvInstall, impl.EvRemove, impl.EvUpdate, impl.EvLimit, impl.EvClick, impl.EvGo, impl.EvTick:
		return takeStep(b, e)
	case impl.EvPage:
		return impl.PageEdit(b, e.Tab, e.Edit)
	case impl.EvWrite:
		return impl.WriteTab(b, e.Ext, e.Tab, e.Edit)
	case impl.EvStore:
		return impl.StoreFor(b, e.Ext, e.Tab, e.N, e.Value)
	}
	return b, false
}

// someEvents returns a history that begins with a browser, in which much of what happens succeeds.
func someEvents(roll func(n int) int, b impl.Browser, n int) []impl.Event {
	l := []impl.Event{}
	for range n {
		kind := 1 + roll(10)
		if roll(20) == 0 {
			kind = []int{0, -1, 11, 99}[roll(4)]
		}
		e := someEvent(roll, kind, b)
		b, _ = impl.ApplyEvent(b, e)
		l = append(l, e)
	}
	return l
}

// events36 has an event of each kind, of which the one of a kind stands at its number less 1; all are of the extension 1.
func events36() []impl.Event {
	text := impl.Edit{Kind: impl.EdText, Node: 2, Text: 9, By: 1}
	return []impl.Event{
		{Kind: impl.EvInstall, Package: fine27()}, {Kind: impl.EvRemove, Ext: 1}, {Kind: impl.EvUpdate, Package: next27(func(*impl.Package) {})},
		{Kind: impl.EvLimit, Limit: impl.Limit{Ext: 1, Pattern: everywhere}}, {Kind: impl.EvClick, Ext: 1}, {Kind: impl.EvGo, Ext: 1, Site: impl.Site{Owner: 4}},
		{Kind: impl.EvTick, Ext: 1, N: 3}, {Kind: impl.EvPage, Ext: 1, Edit: text}, {Kind: impl.EvWrite, Ext: 1, Edit: text}, {Kind: impl.EvStore, Ext: 1, N: 4, Value: 7},
	}
}

func TestEventNames(t *testing.T) {
	kinds := []int{impl.EvInstall, impl.EvRemove, impl.EvUpdate, impl.EvLimit, impl.EvClick, impl.EvGo, impl.EvTick, impl.EvPage, impl.EvWrite, impl.EvStore}
	for i, want := range []string{"install", "remove", "update", "limit", "click", "go", "tick", "page", "write", "store"} {
		if got := impl.EventName(i + 1); got != want || kinds[i] != i+1 {
			t.Errorf("EventName(%d) = %q", i+1, got)
		}
	}
	for _, kind := range []int{math.MinInt, -10, -1, 0, 11, 12, 100, math.MaxInt} {
		if got := impl.EventName(kind); got != "" {
			t.Errorf("EventName(%d) = %q", kind, got)
		}
	}
}

func TestApplyEvent(t *testing.T) {
	roll := dice(36)
	counts := [11][2]int{}
	for range 500 {
		b := empty35()
		for range 40 {
			e := someEvent(roll, 1+roll(10), b)
			want, wantOk := happened(b, e)
			got, ok := impl.ApplyEvent(b, e)
			if ok != wantOk || !alike(got, want) {
				t.Fatalf("ApplyEvent(%+v, %+v) = %+v, %v", b, e, got, ok)
			}
			if !impl.IsBrowser(got) {
				t.Fatalf("ApplyEvent(%+v, %+v) = %+v is no browser", b, e, got)
			}
			counts[e.Kind][map[bool]int{true: 1}[ok]]++
			b = got
		}
	}
	for kind, n := range counts[1:] {
		if n[0] < 10 || n[1] < 10 {
			t.Errorf("events of the kind %d: %v", kind+1, n)
		}
	}
	for _, b := range []impl.Browser{browser32(), act33(all33()...), {}} {
		for _, e := range events36() {
			want, wantOk := happened(b, e)
			if got, ok := impl.ApplyEvent(b, e); ok != wantOk || !alike(got, want) {
				t.Errorf("ApplyEvent(%+v, %+v) = %+v, %v", b, e, got, ok)
			}
		}
	}
}

// TestEventsUseTheirFields changes each field of an event and asks whether that has changed what happens.
func TestEventsUseTheirFields(t *testing.T) {
	b := act33(all33()...)
	for i, e := range events36() {
		for _, x := range variants(e) {
			if x.value.Kind != e.Kind {
				continue
			}
			want, wantOk := happened(b, x.value)
			if got, ok := impl.ApplyEvent(b, x.value); ok != wantOk || !alike(got, want) {
				t.Errorf("%d%s: %+v, %v", i, x.where, got, ok)
			}
		}
	}
}

// TestEventsOfNoKind happen to browsers as nothing does.
func TestEventsOfNoKind(t *testing.T) {
	for _, b := range []impl.Browser{browser32(), empty35(), {}, {Now: -1}} {
		for _, kind := range []int{math.MinInt, -1, 0, 11, 12, math.MaxInt} {
			for _, e := range append(events36(), impl.Event{}) {
				e.Kind = kind
				if got, ok := impl.ApplyEvent(b, e); ok || !alike(got, b) {
					t.Errorf("the kind %d: %+v, %v", kind, got, ok)
				}
				if got := impl.RunEvents(b, []impl.Event{e, e}); !alike(got, b) {
					t.Errorf("the kind %d twice: %+v", kind, got)
				}
				if got := impl.WithoutExt([]impl.Event{e}, 1); !alike(got, []impl.Event{e}) {
					t.Errorf("the kind %d without 1: %+v", kind, got)
				}
			}
		}
	}
}

// TestHistoriesCanBeDivided runs histories in one part and in two.
func TestHistoriesCanBeDivided(t *testing.T) {
	roll := dice(360)
	for range 120 {
		b := empty35()
		if roll(3) == 0 {
			b = browser32()
		}
		l := someEvents(roll, b, 25)
		whole := impl.RunEvents(b, l)
		now := b
		for n := range len(l) + 1 {
			if got := impl.RunEvents(impl.RunEvents(b, l[:n]), l[n:]); !alike(got, whole) {
				t.Fatalf("%+v divided at %d: %+v, want %+v", l, n, got, whole)
			}
			if !alike(impl.RunEvents(b, l[:n]), now) {
				t.Fatalf("the first %d of %+v: %+v", n, l, now)
			}
			if n < len(l) {
				now, _ = happened(now, l[n])
			}
		}
		if !impl.IsBrowser(whole) {
			t.Fatalf("%+v makes %+v", l, whole)
		}
	}
	if got := impl.RunEvents(impl.Browser{}, events36()); got.Now != 3 || len(got.Limits) != 1 || len(got.Packs) != 0 {
		t.Errorf("of the zero browser: %+v", got)
	}
	if got := impl.RunEvents(browser32(), nil); !alike(got, browser32()) {
		t.Errorf("without events: %+v", got)
	}
}

func TestWithoutExt(t *testing.T) {
	l := events36()
	other := fine27()
	other.Ext = 2
	// Neither is an event of 1 that has 1 somewhere else.
	l = append(l, impl.Event{Kind: impl.EvInstall, Ext: 1, Package: other}, impl.Event{Kind: impl.EvUpdate, Ext: 1}, impl.Event{Kind: impl.EvRemove, Ext: 2, Package: fine27()},
		impl.Event{Kind: impl.EvWrite, Ext: 3, Edit: impl.Edit{By: 1}, Package: fine27()}, impl.Event{Kind: impl.EvStore, Package: fine27()}, impl.Event{Kind: impl.EvClick, Ext: 2, Tab: 1, N: 1, Package: fine27()})
	for _, ext := range []int{math.MinInt, -1, 0, 1, 2, 3, 4, math.MaxInt} {
		want := []impl.Event{}
		for _, e := range l {
			isOf := e.Package.Ext == ext && (e.Kind == 1 || e.Kind == 3) || e.Ext == ext && (e.Kind == 2 || e.Kind == 9 || e.Kind == 10)
			if e.Kind == impl.EvClick && e.Ext == ext {
				e.Ext = 0
			}
			if !isOf {
				want = append(want, e)
			}
		}
		if got := impl.WithoutExt(l, ext); !alike(got, want) {
			t.Errorf("WithoutExt(%d) = %+v, want %+v", ext, got, want)
		}
	}
	if got := impl.WithoutExt(l[:10], 1); len(got) != 5 || got[1].Kind != impl.EvClick || got[1].Ext != 0 {
		t.Errorf("without 1: %+v", got)
	}
	if got := impl.WithoutExt(nil, 1); len(got) != 0 {
		t.Errorf("of nothing: %+v", got)
	}
}

// TestWithoutExtNothingOfItIsLeft runs histories without an extension.
func TestWithoutExtNothingOfItIsLeft(t *testing.T) {
	roll := dice(361)
	for range 150 {
		l := someEvents(roll, empty35(), 30)
		for ext := 1; ext <= 4; ext++ {
			b := impl.RunEvents(empty35(), impl.WithoutExt(l, ext))
			if impl.TracesOf(b, ext) != 0 || impl.PackOf(b, ext) >= 0 || !impl.IsBrowser(b) {
				t.Fatalf("%+v without %d: %+v", l, ext, b)
			}
		}
	}
}

func TestCountKind(t *testing.T) {
	l := append(events36(), events36()[3:5]...)
	l = append(l, impl.Event{}, impl.Event{Kind: -7}, impl.Event{Kind: -7})
	for kind, want := range map[int]int{1: 1, 2: 1, 3: 1, 4: 2, 5: 2, 6: 1, 9: 1, 10: 1, 11: 0, 0: 1, -7: 2, -1: 0, math.MaxInt: 0} {
		if got := impl.CountKind(l, kind); got != want {
			t.Errorf("CountKind(%d) = %d", kind, got)
		}
	}
	if impl.CountKind(nil, 0) != 0 {
		t.Error("nothing is counted")
	}
}

func TestEventsKeepTheirArguments(t *testing.T) {
	for _, b := range []impl.Browser{browser32(), act33(all33()...), empty35(), {}} {
		for _, e := range append(events36(), impl.Event{}) {
			keeps(t, "ApplyEvent", impl.ApplyEvent, b, e)
		}
		keeps(t, "RunEvents", impl.RunEvents, b, events36())
		keeps(t, "RunEvents", impl.RunEvents, b, events36()[:1])
		keeps(t, "RunEvents", impl.RunEvents, b, []impl.Event(nil))
	}
	for ext := range 3 {
		keeps(t, "WithoutExt", impl.WithoutExt, events36(), ext)
		keeps(t, "CountKind", impl.CountKind, events36(), ext)
	}
}
