package tests

import (
	"math"
	"slices"
	"strings"
	"testing"

	"loop.example/g03001/impl"
)

// varints has numbers on both sides of each length, and what they are encoded as.
var varints = []struct {
	n    int
	want []byte
}{
	{0, []byte{0}}, {1, []byte{1}}, {9, []byte{9}}, {126, []byte{126}}, {127, []byte{127}},
	{128, []byte{128, 1}}, {129, []byte{129, 1}}, {255, []byte{255, 1}}, {256, []byte{128, 2}}, {300, []byte{172, 2}},
	{16383, []byte{255, 127}}, {16384, []byte{128, 128, 1}}, {16385, []byte{129, 128, 1}},
	{2097151, []byte{255, 255, 127}}, {2097152, []byte{128, 128, 128, 1}},
	{268435455, []byte{255, 255, 255, 127}}, {268435456, []byte{128, 128, 128, 128, 1}},
	{34359738367, []byte{255, 255, 255, 255, 127}}, {34359738368, []byte{128, 128, 128, 128, 128, 1}},
	{impl.MaxValue - 1, []byte{255, 159, 148, 165, 141, 29}}, {impl.MaxValue, []byte{128, 160, 148, 165, 141, 29}},
}

// notEncoded has numbers that no varint carries.
var notEncoded = []int{-1, -2, -128, -300, -impl.MaxValue, math.MinInt, impl.MaxValue + 1, impl.MaxValue + 2, 1 << 42, math.MaxInt}

// notVarints has byte strings that start with no varint.
var notVarints = []struct {
	why string
	b   []byte
}{
	{"nothing", nil},
	{"ends early", []byte{128}},
	{"ends early", []byte{255}},
	{"ends early", []byte{172, 130}},
	{"ends early", []byte{128, 128, 128, 128, 128}},
	{"not minimal", []byte{128, 0}},
	{"not minimal", []byte{129, 0}},
	{"not minimal", []byte{255, 0}},
	{"not minimal", []byte{128, 0, 1}},
	{"not minimal", []byte{128, 128, 0}},
	{"not minimal", []byte{172, 130, 0}},
	{"not minimal", []byte{255, 255, 255, 0}},
	{"not minimal", []byte{255, 255, 255, 255, 0}},
	{"not minimal", []byte{255, 255, 255, 255, 255, 0}},
	{"not minimal", []byte{128, 128, 128, 128, 128, 0}},
	{"seven bytes", []byte{128, 128, 128, 128, 128, 128, 1}},
	{"seven bytes", []byte{255, 255, 255, 255, 255, 255, 0}},
	{"seven bytes", []byte{128, 128, 128, 128, 128, 128, 0}},
	{"seven bytes", []byte{128, 128, 128, 128, 128, 128, 127}},
	{"six bytes and no end", []byte{128, 128, 128, 128, 128, 128}},
	{"ten bytes", []byte{255, 255, 255, 255, 255, 255, 255, 255, 255, 1}},
	{"twelve bytes", []byte{128, 128, 128, 128, 128, 128, 128, 128, 128, 128, 128, 1}},
	{"beyond MaxValue", []byte{129, 160, 148, 165, 141, 29}},
	{"beyond MaxValue", []byte{128, 160, 148, 165, 141, 30}},
	{"beyond MaxValue", []byte{255, 255, 255, 255, 255, 127}},
	{"beyond MaxValue", []byte{128, 128, 128, 128, 128, 64}},
}

func TestAppendUvarint(t *testing.T) {
	for _, c := range varints {
		for _, b := range [][]byte{nil, {}, {9}, {128, 0}} {
			want := append(slices.Clone(b), c.want...)
			if got := impl.AppendUvarint(b, c.n); !slices.Equal(got, want) {
				t.Errorf("AppendUvarint(%v, %d) = %v, want %v", b, c.n, got, want)
			}
		}
	}
	for _, n := range notEncoded {
		for _, b := range [][]byte{nil, {}, {9}, {128, 0}} {
			if got := impl.AppendUvarint(b, n); !slices.Equal(got, b) {
				t.Errorf("AppendUvarint(%v, %d) = %v", b, n, got)
			}
		}
	}
}

func TestReadUvarint(t *testing.T) {
	for _, c := range varints {
		for _, before := range [][]byte{nil, {7}, {255, 255, 128}} {
			for _, after := range [][]byte{nil, {0}, {128}, {255, 1}} {
				b := slices.Concat(before, c.want, after)
				n, next, ok := impl.ReadUvarint(b, len(before))
				if n != c.n || next != len(before)+len(c.want) || !ok {
					t.Errorf("ReadUvarint(%v, %d) = %d, %d, %v, want %d", b, len(before), n, next, ok, c.n)
				}
			}
		}
	}
}

func TestReadUvarintRejects(t *testing.T) {
	check := func(why string, b []byte, offset int) {
		t.Helper()
		if n, next, ok := impl.ReadUvarint(b, offset); n != 0 || next != 0 || ok {
			t.Errorf("%s: ReadUvarint(%v, %d) = %d, %d, %v", why, b, offset, n, next, ok)
		}
	}
	for _, c := range notVarints {
		check(c.why, c.b, 0)
		check(c.why, append([]byte{5, 6}, c.b...), 2)
	}
	for _, offset := range []int{-1, -2, 2, 3, 100, math.MinInt, math.MaxInt} {
		check("offset", []byte{1, 2}, offset)
		check("offset", []byte{128, 1}, offset)
	}
	for _, offset := range []int{-1, 0, 1, math.MinInt, math.MaxInt} {
		check("offset", nil, offset)
		check("offset", []byte{}, offset)
	}
	// What lies behind the end of the input does not belong to it.
	check("capacity", []byte{128, 1}[:1], 0)
	check("capacity", []byte{1, 2}[:1], 1)
}

// TestVarintsAreUnique tries all varints of up to two bytes: what is read is written as it was.
func TestVarintsAreUnique(t *testing.T) {
	seen := map[int]bool{}
	for a := range 256 {
		for b := range 256 {
			in := []byte{byte(a), byte(b)}
			n, next, ok := impl.ReadUvarint(in, 0)
			if want := a < 128 || b > 0 && b < 128; ok != want {
				t.Fatalf("ReadUvarint(%v, 0) reports %v", in, ok)
			}
			if !ok {
				continue
			}
			if got := impl.AppendUvarint(nil, n); !slices.Equal(got, in[:next]) {
				t.Errorf("%v is read as %d, which is written as %v", in, n, got)
			}
			seen[n] = true
		}
	}
	if len(seen) != 1<<14 {
		t.Errorf("%d numbers of up to two bytes", len(seen))
	}
}

func TestAppendBytes(t *testing.T) {
	long := []byte(strings.Repeat("x", 300))
	cases := []struct{ b, data, want []byte }{
		{nil, nil, []byte{0}},
		{nil, []byte{}, []byte{0}},
		{[]byte{1}, nil, []byte{1, 0}},
		{nil, []byte{7}, []byte{1, 7}},
		{[]byte{1}, []byte{7, 8}, []byte{1, 2, 7, 8}},
		{[]byte{128, 0}, []byte{255, 0, 128}, []byte{128, 0, 3, 255, 0, 128}},
		{nil, long[:127], slices.Concat([]byte{127}, long[:127])},
		{nil, long[:128], slices.Concat([]byte{128, 1}, long[:128])},
		{[]byte{9}, long, slices.Concat([]byte{9, 172, 2}, long)},
	}
	for _, c := range cases {
		if got := impl.AppendBytes(c.b, c.data); !slices.Equal(got, c.want) {
			t.Errorf("AppendBytes(%v, %v) = %v, want %v", c.b, c.data, got, c.want)
		}
	}
}

func TestReadBytes(t *testing.T) {
	long := []byte(strings.Repeat("y", 20000))
	for _, size := range []int{0, 1, 2, 126, 127, 128, 300, 16383, 16384, 20000} {
		data := long[:size]
		for _, before := range [][]byte{nil, {200, 200}} {
			for _, after := range [][]byte{nil, {1}, {128, 255}} {
				b := append(impl.AppendBytes(before, data), after...)
				for _, maxLen := range []int{size, size + 1, impl.MaxValue, math.MaxInt} {
					got, next, ok := impl.ReadBytes(b, len(before), maxLen)
					if !slices.Equal(got, data) || next != len(b)-len(after) || !ok {
						t.Errorf("size %d, at most %d: ReadBytes returns %d bytes, %d, %v", size, maxLen, len(got), next, ok)
					}
				}
			}
		}
	}
}

func TestReadBytesRejects(t *testing.T) {
	check := func(why string, b []byte, offset int, maxLen int) {
		t.Helper()
		if got, next, ok := impl.ReadBytes(b, offset, maxLen); len(got) != 0 || next != 0 || ok {
			t.Errorf("%s: ReadBytes(%v, %d, %d) = %v, %d, %v", why, b, offset, maxLen, got, next, ok)
		}
	}
	for _, c := range notVarints {
		check(c.why, c.b, 0, 1000)
	}
	for _, offset := range []int{-1, 3, 4, math.MinInt, math.MaxInt} {
		check("offset", []byte{2, 7, 8}, offset, 10)
	}
	for _, maxLen := range []int{1, 0, -1, math.MinInt} {
		check("too long", []byte{2, 7, 8}, 0, maxLen)
	}
	for _, maxLen := range []int{-1, -2, math.MinInt} {
		check("no length is allowed", []byte{0}, 0, maxLen)
	}
	check("too short", []byte{1}, 0, 10)
	check("too short", []byte{2, 7}, 0, 10)
	check("too short", []byte{9, 9, 2, 7}, 2, 10)
	check("too short", append([]byte{128, 1}, make([]byte, 127)...), 0, 1000)
	check("too short, with capacity", []byte{2, 7, 8}[:2], 0, 10)
	check("too short by far", append(impl.AppendUvarint(nil, impl.MaxValue), 1, 2), 0, math.MaxInt)
	check("length beyond MaxValue", []byte{129, 160, 148, 165, 141, 29, 1}, 0, math.MaxInt)
}

func TestEncodeInts(t *testing.T) {
	cases := []struct {
		values []int
		want   []byte
	}{
		{nil, nil}, {[]int{}, nil}, {[]int{0}, []byte{0}}, {[]int{5, 300}, []byte{5, 172, 2}}, {[]int{0, 0, 127, 128}, []byte{0, 0, 127, 128, 1}},
		{[]int{-1}, nil}, {[]int{1, -1, 2}, []byte{1, 2}}, {notEncoded, nil},
		{[]int{impl.MaxValue, impl.MaxValue + 1, 3}, []byte{128, 160, 148, 165, 141, 29, 3}},
	}
	for _, c := range cases {
		if got := impl.EncodeInts(c.values); !slices.Equal(got, c.want) {
			t.Errorf("EncodeInts(%v) = %v, want %v", c.values, got, c.want)
		}
	}
}

func TestDecodeInts(t *testing.T) {
	values := []int{}
	for _, c := range varints {
		values = append(values, c.n)
	}
	b := impl.EncodeInts(values)
	offset := 0
	for i := range values {
		for count := 0; i+count <= len(values); count++ {
			want := values[i : i+count]
			end := offset + len(impl.EncodeInts(want))
			got, next, ok := impl.DecodeInts(b, offset, count)
			if !slices.Equal(got, want) || next != end || !ok {
				t.Errorf("DecodeInts from %d, %d numbers = %v, %d, %v, want %v, %d", offset, count, got, next, ok, want, end)
			}
		}
		offset += len(varints[i].want)
	}
	for _, b := range [][]byte{nil, {128}, {1, 2, 3}} {
		for offset := 0; offset <= len(b); offset++ {
			if got, next, ok := impl.DecodeInts(b, offset, 0); len(got) != 0 || next != offset || !ok {
				t.Errorf("DecodeInts(%v, %d, 0) = %v, %d, %v", b, offset, got, next, ok)
			}
		}
	}
}

func TestDecodeIntsCounts(t *testing.T) {
	b := make([]byte, 200)
	for i := range b {
		b[i] = byte(i % 100)
	}
	for _, count := range []int{99, 100} {
		if got, next, ok := impl.DecodeInts(b, 3, count); len(got) != count || next != 3+count || !ok || got[0] != 3 || got[count-1] != (2+count)%100 {
			t.Errorf("DecodeInts of %d numbers = %v, %d, %v", count, got, next, ok)
		}
	}
	for _, count := range []int{101, 102, 150, -1, -100, math.MinInt, math.MaxInt} {
		if got, next, ok := impl.DecodeInts(b, 0, count); len(got) != 0 || next != 0 || ok {
			t.Errorf("DecodeInts of %d numbers = %v, %d, %v", count, got, next, ok)
		}
	}
}

func TestDecodeIntsRejects(t *testing.T) {
	check := func(why string, b []byte, offset int, count int) {
		t.Helper()
		if got, next, ok := impl.DecodeInts(b, offset, count); len(got) != 0 || next != 0 || ok {
			t.Errorf("%s: DecodeInts(%v, %d, %d) = %v, %d, %v", why, b, offset, count, got, next, ok)
		}
	}
	for _, c := range notVarints {
		check(c.why, c.b, 0, 1)
		check(c.why, append([]byte{5, 172, 2}, c.b...), 0, 3)
		check(c.why, append([]byte{5, 172, 2}, c.b...), 1, 2)
	}
	for _, count := range []int{0, 1} {
		for _, offset := range []int{-1, 4, 5, math.MinInt, math.MaxInt} {
			check("offset", []byte{1, 2, 3}, offset, count)
		}
		check("offset", nil, 1, count)
		check("offset", nil, -1, count)
	}
	check("at the end", []byte{1, 2, 3}, 3, 1)
	check("too few", []byte{1, 2, 3}, 1, 3)
	check("too few, with capacity", []byte{1, 2, 3}[:2], 0, 3)
}

func TestEqualBytes(t *testing.T) {
	lists := [][]byte{nil, {0}, {1}, {0, 0}, {0, 1}, {1, 0}, {0, 1, 2}, {0, 1, 3}, {255, 1, 2}}
	checkEqual(t, "EqualBytes", impl.EqualBytes, lists)
}

func TestEncodingKeepsItsArguments(t *testing.T) {
	for _, start := range [][]byte{nil, {1, 2}} {
		for _, n := range []int{5, 300, impl.MaxValue, -1} {
			b, check := guard(t, start, 77)
			scribble(impl.AppendUvarint(b, n), 99)
			check("AppendUvarint")
		}
		b, check := guard(t, start, 77)
		data, checkData := guard(t, []byte{3, 4}, 66)
		scribble(impl.AppendBytes(b, data), 99)
		scribble(impl.AppendBytes(b, nil), 99)
		check("AppendBytes")
		checkData("AppendBytes")
	}
	in, check := guard(t, []byte{2, 7, 8, 0}, 77)
	for offset := range in {
		data, _, _ := impl.ReadBytes(in, offset, 10)
		scribble(data, 99)
	}
	check("ReadBytes")
	values, checkValues := guard(t, []int{1, -1, 300}, 77)
	impl.EncodeInts(values)
	checkValues("EncodeInts")
}
