package tests

import (
	"math"
	"slices"
	"testing"

	"loop.example/g03001/impl"
)

const modulus = impl.Modulus

func TestModulus(t *testing.T) {
	if impl.Modulus != 2147483647 {
		t.Errorf("Modulus is %d", impl.Modulus)
	}
}

func TestHash(t *testing.T) {
	cases := []struct {
		values []int
		want   int
	}{
		{nil, 11}, {[]int{}, 11}, {[]int{0}, 11000046}, {[]int{5}, 11000051},
		{[]int{0, 0}, 667760217}, {[]int{1, 2, 3}, 1460866530}, {[]int{3, 2, 1}, 18107542}, {[]int{7, 7, 7, 7}, 611560739},
		{[]int{-1}, 11000045}, {[]int{-1, -2}, 666760212}, {[]int{-modulus}, 11000046}, {[]int{-modulus - 1}, 11000045},
		{[]int{modulus - 1}, 11000045}, {[]int{modulus}, 11000046}, {[]int{modulus + 1}, 11000047}, {[]int{modulus - 1, modulus - 2}, 666760212},
		{[]int{impl.MaxValue}, 1431104191}, {[]int{math.MaxInt}, 11000047}, {[]int{math.MinInt}, 11000044},
	}
	for _, c := range cases {
		if got := impl.Hash(c.values); got != c.want {
			t.Errorf("Hash(%v) = %d, want %d", c.values, got, c.want)
		}
	}
}

// TestHashTakesRemainders adds multiples of the modulus, also those that make a value negative.
func TestHashTakesRemainders(t *testing.T) {
	for _, v := range []int{0, 1, 5, 1000, modulus - 1} {
		want := impl.Hash([]int{3, v, 4})
		if want < 0 || want >= modulus {
			t.Errorf("the hash %d is out of range", want)
		}
		for _, k := range []int{-1000, -2, -1, 1, 2, 1000} {
			if got := impl.Hash([]int{3, v + k*modulus, 4}); got != want {
				t.Errorf("the value %d and %d times the modulus: %d, want %d", v, k, got, want)
			}
		}
	}
}

func TestHashStaysInRange(t *testing.T) {
	values := []int{}
	for i := range 3000 {
		values = append(values, (i*i*i*7919-i*104729)*(1-i%3))
		if h := impl.Hash(values); h < 0 || h >= modulus {
			t.Fatalf("the hash of %d values is %d", len(values), h)
		}
	}
}

func TestKeyedHash(t *testing.T) {
	cases := []struct {
		key    int
		values []int
		want   int
	}{
		{0, nil, 667760217}, {0, []int{4}, 36762379}, {1, nil, 668760221}, {1, []int{4}, 1462866534}, {3, []int{4}, 20107550},
		{-1, nil, 666760213}, {-1, []int{4}, 758141871}, {modulus - 1, []int{4}, 758141871}, {modulus, nil, 667760217},
		{impl.MaxValue, []int{4}, 1009065612},
	}
	for _, c := range cases {
		if got := impl.KeyedHash(c.key, c.values); got != c.want {
			t.Errorf("KeyedHash(%d, %v) = %d, want %d", c.key, c.values, got, c.want)
		}
	}
	for _, key := range []int{-7, 0, 1, 12345, modulus - 1, math.MinInt, math.MaxInt} {
		for _, values := range [][]int{nil, {0}, {-5}, {1, 2, 3}, {key, key}} {
			want := impl.Hash(slices.Concat([]int{key}, values, []int{key}))
			if got := impl.KeyedHash(key, values); got != want {
				t.Errorf("KeyedHash(%d, %v) = %d, want %d", key, values, got, want)
			}
		}
	}
}

// TestKeyedHashDependsOnEachValue changes one value, or the key, at a time.
func TestKeyedHashDependsOnEachValue(t *testing.T) {
	values := []int{4, 0, -9, 100, modulus - 1, 4}
	const key = 77
	want := impl.KeyedHash(key, values)
	for i := range values {
		for _, by := range []int{1, -1, 2, 1000, modulus - 1, 1 - modulus, modulus + 1} {
			changed := slices.Clone(values)
			changed[i] += by
			if impl.KeyedHash(key, changed) == want {
				t.Errorf("the hash is the same with %d more at %d", by, i)
			}
		}
		if impl.KeyedHash(key, slices.Delete(slices.Clone(values), i, i+1)) == want {
			t.Errorf("the hash is the same without the value at %d", i)
		}
	}
	for _, other := range []int{0, 1, 76, 78, -77, modulus - 77, 7700} {
		if impl.KeyedHash(other, values) == want {
			t.Errorf("the hash is the same with the key %d", other)
		}
	}
	if impl.KeyedHash(key, append(slices.Clone(values), 0)) == want || impl.KeyedHash(key, append([]int{0}, values...)) == want {
		t.Error("the hash is the same with one value more")
	}
}

func TestIsValidKey(t *testing.T) {
	for _, key := range []int{1, 2, 77, 1000000, modulus - 2, modulus - 1} {
		if !impl.IsValidKey(key) {
			t.Errorf("the key %d is not valid", key)
		}
	}
	for _, key := range []int{0, -1, -77, modulus, modulus + 1, 1 - modulus, -modulus, 1 << 32, 1<<32 + 1, impl.MaxValue, math.MinInt, math.MaxInt} {
		if impl.IsValidKey(key) {
			t.Errorf("the key %d is valid", key)
		}
	}
}

func TestBytesToInts(t *testing.T) {
	cases := []struct {
		b    []byte
		want []int
	}{
		{nil, []int{0}}, {[]byte{}, []int{0}}, {[]byte{0}, []int{1, 0}}, {[]byte{9, 8}, []int{2, 9, 8}},
		{[]byte{127, 128, 255}, []int{3, 127, 128, 255}}, {[]byte("é"), []int{2, 195, 169}},
	}
	for _, c := range cases {
		if got := impl.BytesToInts(c.b); !slices.Equal(got, c.want) {
			t.Errorf("BytesToInts(%v) = %v, want %v", c.b, got, c.want)
		}
	}
	if got := impl.BytesToInts(make([]byte, 1000)); len(got) != 1001 || got[0] != 1000 {
		t.Errorf("of 1000 bytes: %d numbers, the first one %d", len(got), got[0])
	}
}

func TestEncrypt(t *testing.T) {
	cases := []struct {
		key     int
		in, out []byte
	}{
		{77, []byte("hello"), []byte{249, 57, 131, 198, 12}},
		{77, nil, nil}, {0, []byte{}, nil},
		{0, []byte{0, 0, 0, 0}, []byte{255, 66, 133, 200}},
		{1, []byte{0, 0, 0, 0}, []byte{90, 157, 224, 35}},
		{-1, []byte{0, 0, 0, 0}, []byte{163, 230, 41, 108}},
		{modulus, []byte{0, 0, 0, 0}, []byte{255, 66, 133, 200}},
		{impl.MaxValue, []byte{0, 0, 0, 0}, []byte{128, 195, 6, 73}},
	}
	for _, c := range cases {
		if got := impl.Encrypt(c.key, c.in); !slices.Equal(got, c.out) {
			t.Errorf("Encrypt(%d, %v) = %v, want %v", c.key, c.in, got, c.out)
		}
		if got := impl.Decrypt(c.key, c.out); !slices.Equal(got, c.in) {
			t.Errorf("Decrypt(%d, %v) = %v, want %v", c.key, c.out, got, c.in)
		}
	}
}

// TestDecryptInvertsEncrypt has every byte at many positions, for valid keys and for others.
func TestDecryptInvertsEncrypt(t *testing.T) {
	text := make([]byte, 1024)
	for i := range text {
		text[i] = byte(i + i/256*37)
	}
	for _, key := range []int{1, 2, 77, modulus - 1, 0, -1, -77, modulus, impl.MaxValue, math.MinInt, math.MaxInt} {
		for _, size := range []int{0, 1, 2, 255, 256, 257, 1024} {
			plain := text[:size]
			secret := impl.Encrypt(key, plain)
			if len(secret) != size {
				t.Fatalf("%d bytes are encrypted to %d", size, len(secret))
			}
			for i := range secret {
				if want := byte(int(plain[i]) + impl.KeyedHash(key, []int{i})); secret[i] != want {
					t.Fatalf("key %d: the byte at %d is %d, want %d", key, i, secret[i], want)
				}
			}
			if !slices.Equal(impl.Decrypt(key, secret), plain) || !slices.Equal(impl.Encrypt(key, impl.Decrypt(key, plain)), plain) {
				t.Errorf("key %d: %d bytes are not decrypted to what they were", key, size)
			}
		}
	}
	if slices.Equal(impl.Decrypt(78, impl.Encrypt(77, text)), text) {
		t.Error("another key decrypts as well")
	}
}

func TestDeriveFromString(t *testing.T) {
	if got := impl.DeriveFromString(5, "ab"); got != 1905036959 {
		t.Errorf("DeriveFromString(5, ab) = %d", got)
	}
	for _, key := range []int{0, 1, 5, -5, modulus, math.MinInt, math.MaxInt} {
		for _, label := range []string{"", "a", "ab", "ba", "storage", "é", "\x00\xff", "a b"} {
			want := impl.KeyedHash(key, impl.BytesToInts([]byte(label)))
			if got := impl.DeriveFromString(key, label); got != want || !impl.IsValidKey(got) {
				t.Errorf("DeriveFromString(%d, %q) = %d, want %d", key, label, got, want)
			}
		}
	}
}

// TestDeriveFromStringIsNeverZero has keys for which the keyed hash is 0.
func TestDeriveFromStringIsNeverZero(t *testing.T) {
	cases := []struct {
		key   int
		label string
	}{
		{1310415589, ""}, {1465621127, "a"}, {916074962, "ab"}, {1430470094, "extension"}, {1430470094 - modulus, "extension"},
	}
	for _, c := range cases {
		if h := impl.KeyedHash(c.key, impl.BytesToInts([]byte(c.label))); h != 0 {
			t.Fatalf("the keyed hash of %d and %q is %d", c.key, c.label, h)
		}
		if got := impl.DeriveFromString(c.key, c.label); got != 1 {
			t.Errorf("DeriveFromString(%d, %q) = %d, want 1", c.key, c.label, got)
		}
	}
}

func TestEqualInts(t *testing.T) {
	lists := [][]int{nil, {0}, {1}, {-1}, {0, 0}, {0, 1}, {1, 0}, {0, 1, 2}, {0, 1, -2}, {math.MinInt, 1, 2}, {math.MaxInt, 1, 2}}
	checkEqual(t, "EqualInts", impl.EqualInts, lists)
}

func TestCryptoKeepsItsArguments(t *testing.T) {
	values, check := guard(t, []int{4, -5, 6}, 77)
	impl.Hash(values)
	impl.KeyedHash(9, values)
	check("KeyedHash")
	text, checkText := guard(t, []byte{4, 5, 6}, 77)
	scribble(impl.BytesToInts(text), 99)
	scribble(impl.Encrypt(9, text), 99)
	scribble(impl.Decrypt(9, text), 99)
	checkText("Encrypt and Decrypt")
}
