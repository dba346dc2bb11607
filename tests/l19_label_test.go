package tests

import (
	"math"
	"slices"
	"strconv"
	"strings"
	"testing"

	"loop.example/g03001/impl"
)

var powers = []int{1, 2, 4, 8, 16, 32, 64, 128, 256, 512}

// owners19 says by other means which owners a label has; ok is false if x is no label.
func owners19(x int) (owners []int, ok bool) {
	if x < 0 || x > 1022 || x%2 != 0 {
		return nil, false
	}
	for o := 1; o <= 9; o++ {
		if x/powers[o]%2 == 1 {
			owners = append(owners, o)
		}
	}
	return owners, true
}

// edges19 has labels and numbers that are none.
var edges19 = []int{
	math.MinInt, math.MinInt + 2, -1024, -1022, -512, -3, -2, -1, 0, 1, 2, 3, 4, 5, 6, 7, 8, 10, 12, 14, 510, 511, 512, 513, 514, 1020, 1021, 1022, 1023, 1024, 1025, 1026,
	2046, 2048, 1 << 32, 1<<32 + 2, math.MaxInt - 1, math.MaxInt,
}

func TestIsLabel(t *testing.T) {
	for _, x := range edges19 {
		if got, want := impl.IsLabel(x), x >= 0 && x <= 1022 && x%2 == 0; got != want {
			t.Errorf("IsLabel(%d) = %v", x, got)
		}
	}
}

// TestLabelsAreSets goes through all numbers around the labels.
func TestLabelsAreSets(t *testing.T) {
	count := 0
	for x := -10; x <= 1040; x++ {
		owners, ok := owners19(x)
		if ok {
			count++
		}
		if got := impl.IsLabel(x); got != ok {
			t.Errorf("IsLabel(%d) = %v", x, got)
		}
		if got := impl.OwnersIn(x); !slices.Equal(got, owners) {
			t.Errorf("OwnersIn(%d) = %v, want %v", x, got, owners)
		}
		texts := []string{}
		for _, o := range owners {
			texts = append(texts, strconv.Itoa(o))
		}
		text := strings.Join(texts, "+")
		if len(owners) == 0 {
			text = "-"
		}
		if got := impl.LabelText(x); got != text {
			t.Errorf("LabelText(%d) = %q, want %q", x, got, text)
		}
		if !ok {
			continue
		}
		slices.Reverse(owners)
		for _, l := range [][]int{owners, append(slices.Clone(owners), owners...), append([]int{0, 10, -1}, owners...)} {
			if got := impl.LabelOf(l); got != x {
				t.Errorf("LabelOf(%v) = %d, want %d", l, got, x)
			}
		}
	}
	if count != 512 {
		t.Errorf("there are %d labels", count)
	}
}

// TestTwoLabels joins and compares all pairs of labels.
func TestTwoLabels(t *testing.T) {
	for x := 0; x <= 1022; x += 2 {
		for y := 0; y <= 1022; y += 2 {
			joined, within := 0, true
			for _, p := range powers[1:] {
				inX, inY := x/p%2 == 1, y/p%2 == 1
				if inX || inY {
					joined += p
				}
				within = within && (inY || !inX)
			}
			if got := impl.JoinLabels(x, y); got != joined {
				t.Fatalf("JoinLabels(%d, %d) = %d, want %d", x, y, got, joined)
			}
			if got := impl.LabelWithin(x, y); got != within {
				t.Fatalf("LabelWithin(%d, %d) = %v", x, y, got)
			}
		}
	}
}

func TestNumbersThatAreNoLabels(t *testing.T) {
	for _, x := range edges19 {
		if _, ok := owners19(x); ok {
			continue
		}
		if got := impl.OwnersIn(x); len(got) != 0 {
			t.Errorf("OwnersIn(%d) = %v", x, got)
		}
		if got := impl.LabelText(x); got != "-" {
			t.Errorf("LabelText(%d) = %q", x, got)
		}
		for _, y := range edges19 {
			if impl.JoinLabels(x, y) != 0 || impl.JoinLabels(y, x) != 0 {
				t.Errorf("%d and %d are joined", x, y)
			}
			if impl.LabelWithin(x, y) || impl.LabelWithin(y, x) {
				t.Errorf("%d and %d: one is within the other", x, y)
			}
		}
	}
}

func TestLabelOf(t *testing.T) {
	for i, c := range []struct {
		owners []int
		want   int
	}{
		{nil, 0}, {[]int{}, 0}, {[]int{1}, 2}, {[]int{9}, 512}, {[]int{0}, 0}, {[]int{10}, 0}, {[]int{-1}, 0}, {[]int{1, 1}, 2}, {[]int{9, 1, 9, 1, 9}, 514},
		{[]int{1, 2, 3, 4, 5, 6, 7, 8, 9}, 1022}, {[]int{9, 8, 7, 6, 5, 4, 3, 2, 1, 0}, 1022}, {[]int{math.MinInt, 3, math.MaxInt, 63, 64, 65, -3}, 8},
	} {
		l, check := guard(t, c.owners, 5)
		if got := impl.LabelOf(l); got != c.want {
			t.Errorf("%d: LabelOf(%v) = %d, want %d", i, l, got, c.want)
		}
		check("LabelOf")
	}
	scribble(impl.OwnersIn(1022), -9)
	if got := impl.OwnersIn(1022); !slices.Equal(got, []int{1, 2, 3, 4, 5, 6, 7, 8, 9}) {
		t.Errorf("the label of all owners has %v", got)
	}
	if got := impl.LabelText(1022); got != "1+2+3+4+5+6+7+8+9" {
		t.Errorf("the label of all owners is %q", got)
	}
}
