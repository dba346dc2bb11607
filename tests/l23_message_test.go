package tests

import (
	"math"
	"slices"
	"testing"

	"loop.example/g03001/impl"
)

var notKeys = []int{math.MinInt, -1, 0, 2147483647, 2147483648, math.MaxInt}

// letter23 is from the world 1 to the world 2, sealed with the key 5.
var letter23 = impl.SealLetter(5, impl.Letter{From: 1, To: 2, Body: 7})

func TestSealLetter(t *testing.T) {
	for _, key := range []int{1, 5, 77, 2147483646} {
		for _, x := range []impl.Letter{{}, {From: 1, To: 2, Body: 7}, {From: 5, To: 0, Body: 999, Seal: 44}, {From: -1, To: 6, Body: 1000}, {From: math.MinInt, To: math.MaxInt, Body: math.MinInt, Seal: -1}} {
			want := x
			want.Seal = impl.KeyedHash(key, []int{x.From, x.To, x.Body})
			if got := impl.SealLetter(key, x); got != want {
				t.Errorf("SealLetter(%d, %+v) = %+v", key, x, got)
			}
		}
	}
	for _, key := range notKeys {
		want := impl.Letter{From: 1, To: 2, Body: 7}
		if got := impl.SealLetter(key, letter23); got != want {
			t.Errorf("SealLetter(%d) = %+v", key, got)
		}
	}
}

// TestALetterIsDeliveredOnlyIfItWasSealed changes one thing at a time in sealed letters.
func TestALetterIsDeliveredOnlyIfItWasSealed(t *testing.T) {
	box := []impl.Letter{letter23, {From: 9}}
	for n := range 6 * 6 * 4 {
		x := impl.SealLetter(5, impl.Letter{From: n % 6, To: n / 6 % 6, Body: []int{0, 1, 500, 999}[n/36]})
		if !impl.IsGenuine(5, x) {
			t.Fatalf("%+v is not genuine", x)
		}
		if got := impl.Deliver(5, box, x); !slices.Equal(got, append(slices.Clone(box), x)) {
			t.Fatalf("%+v is not delivered", x)
		}
		for i := range 4 {
			for _, by := range []int{-1, 1} {
				y := x
				*[]*int{&y.From, &y.To, &y.Body, &y.Seal}[i] += by
				if impl.IsGenuine(5, y) || !slices.Equal(impl.Deliver(5, box, y), box) {
					t.Fatalf("%+v, which was %+v, is genuine", y, x)
				}
			}
		}
		for _, key := range append([]int{1, 4, 6, 77, 2147483646}, notKeys...) {
			if impl.IsGenuine(key, x) || !slices.Equal(impl.Deliver(key, box, x), box) {
				t.Fatalf("%+v is genuine with the key %d", x, key)
			}
		}
	}
}

// TestLettersBeyondTheRange are sealed, and yet not genuine.
func TestLettersBeyondTheRange(t *testing.T) {
	for _, key := range []int{1, 5, 2147483646} {
		around([][2]int{{0, 5}, {0, 5}, {0, 999}}, func(field int, n int, inside bool) {
			x := impl.Letter{From: 3, To: 3, Body: 3}
			*[]*int{&x.From, &x.To, &x.Body}[field] = n
			x = impl.SealLetter(key, x)
			if got := impl.IsGenuine(key, x); got != inside {
				t.Errorf("IsGenuine(%d, %+v) = %v", key, x, got)
			}
			if got := impl.Deliver(key, nil, x); len(got) == 1 != inside {
				t.Errorf("Deliver(%d, %+v) = %+v", key, x, got)
			}
			if got := impl.Forged(key, []impl.Letter{x}); got == 0 != inside {
				t.Errorf("Forged(%d, %+v) = %d", key, x, got)
			}
		})
	}
	for _, key := range notKeys {
		x := impl.SealLetter(key, impl.Letter{From: 1, To: 2, Body: 7})
		y := x
		y.Seal = impl.KeyedHash(key, []int{1, 2, 7})
		if impl.IsGenuine(key, x) || impl.IsGenuine(key, y) || impl.IsGenuine(key, impl.Letter{}) {
			t.Errorf("%+v is genuine with %d, which is no key", x, key)
		}
	}
}

func TestDeliver(t *testing.T) {
	// What is in a box was delivered before, genuine or not, and the same letter may be there twice.
	box := []impl.Letter{}
	for n := 1; n <= 25; n++ {
		next := impl.Deliver(5, box, letter23)
		if len(next) != min(n, 20) || !slices.Equal(next[:len(box)], box) {
			t.Fatalf("the letter %d: %+v", n, next)
		}
		box = next
	}
	for n := 17; n <= 25; n++ {
		forged := make([]impl.Letter, n)
		want := slices.Clone(forged)
		if n < 20 {
			want = append(want, letter23)
		}
		if got := impl.Deliver(5, forged, letter23); !slices.Equal(got, want) {
			t.Errorf("to %d letters: %d", n, len(got))
		}
		if got := impl.Deliver(5, forged, impl.Letter{}); !slices.Equal(got, forged) {
			t.Errorf("a forged letter to %d: %d", n, len(got))
		}
	}
}

func TestLettersForAndForged(t *testing.T) {
	other := impl.SealLetter(77, impl.Letter{From: 2, To: 2, Body: 7})
	l := []impl.Letter{letter23, {}, other, impl.SealLetter(5, impl.Letter{From: 2, To: 3}), {To: 9}, letter23, {To: -1}, impl.SealLetter(5, impl.Letter{To: 6})}
	checkPicked(t, "LettersFor", impl.LettersFor, l, func(x impl.Letter, to int) bool { return x.To == to })
	for key, want := range map[int]int{5: 5, 77: 7, 1: 8, 0: 8, -1: 8, 2147483647: 8} {
		if got := impl.Forged(key, l); got != want {
			t.Errorf("Forged(%d) = %d, want %d", key, got, want)
		}
	}
	if impl.Forged(5, nil) != 0 || impl.Forged(0, nil) != 0 {
		t.Error("of no letters some are forged")
	}
}

func TestMessagesKeepTheirArguments(t *testing.T) {
	for _, x := range []impl.Letter{letter23, {}} {
		box, check := guard(t, []impl.Letter{letter23, {To: 2}}, impl.Letter{To: 2})
		scribble(impl.Deliver(5, box, x), impl.Letter{To: -9})
		check("Deliver")
		// What lies behind the box is no part of it.
		if got := impl.Forged(5, box); got != 1 {
			t.Errorf("%d letters are forged", got)
		}
		check("Forged")
		full, checkFull := guard(t, make([]impl.Letter, 20), impl.Letter{To: 2})
		scribble(impl.Deliver(5, full, x), impl.Letter{To: -9})
		checkFull("Deliver")
	}
}
