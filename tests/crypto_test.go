package tests

import (
	"math"
	"math/big"
	"slices"
	"strings"
	"testing"

	"loop.example/g03007/impl"
)

var someKeys = []int{1, 2, 77, 1000003, impl.Modulus - 1, 0, -1, -77, impl.Modulus, impl.Modulus + 1, impl.MaxValue, math.MaxInt, math.MinInt}

var someValues = [][]int{
	nil, {0}, {1}, {5}, {13}, {-1}, {-13}, {0, 0}, {0, 1}, {1, 0}, {1, 2, 3}, {3, 2, 1}, {5, 5, 5}, {-5, 5, -5, 5},
	{impl.Modulus - 1}, {impl.Modulus}, {impl.Modulus + 1}, {-impl.Modulus}, {1 - impl.Modulus}, {-1 - impl.Modulus},
	{3, 3 + impl.Modulus, 3, 3 - impl.Modulus, 3 + 2*impl.Modulus},
	{impl.MaxValue, -impl.MaxValue}, {math.MaxInt, math.MinInt, math.MaxInt, math.MinInt},
	{impl.Modulus - 1, impl.Modulus - 1, impl.Modulus - 1, impl.Modulus - 1, impl.Modulus - 1, impl.Modulus - 1},
}

// wantHash folds the values with numbers of any size.
func wantHash(values ...int) int {
	modulus := big.NewInt(2147483647)
	sum := big.NewInt(11)
	for _, v := range values {
		residue := new(big.Int).Mod(big.NewInt(int64(v)), modulus)
		sum.Mul(sum, big.NewInt(1000003)).Add(sum, residue).Add(sum, big.NewInt(13)).Mod(sum, modulus)
	}
	return int(sum.Int64())
}

func TestModulus(t *testing.T) {
	if impl.Modulus != 2147483647 {
		t.Errorf("Modulus = %d", impl.Modulus)
	}
}

func TestHashExamples(t *testing.T) {
	for _, c := range []struct {
		values []int
		want   int
	}{
		{nil, 11},
		{[]int{}, 11},
		{[]int{5}, 11000051},
		{[]int{0}, 11000046},
		{[]int{-1}, 11000045},
		{[]int{impl.Modulus}, 11000046},
		{[]int{5 + impl.Modulus}, 11000051},
		{[]int{5 - impl.Modulus}, 11000051},
		{[]int{-11000046}, 0},
	} {
		if got := impl.Hash(c.values); got != c.want {
			t.Errorf("Hash(%v) = %d, want %d", c.values, got, c.want)
		}
	}
}

func TestHashFoldsEachValue(t *testing.T) {
	long := make([]int, 1000)
	for i := range long {
		long[i] = (i%7 - 3) * (i%5 + 1) * 300000007
	}
	for _, values := range append(slices.Clone(someValues), long) {
		arg, unchanged := guarded(values, 77)
		got := impl.Hash(arg)
		if got != wantHash(values...) {
			t.Errorf("Hash(%v) = %d, want %d", values, got, wantHash(values...))
		}
		if !impl.InRange(got, 0, impl.Modulus-1) {
			t.Errorf("Hash(%v) = %d is out of range", values, got)
		}
		unchanged(t)
	}
}

func TestHashTakesNegativeValuesByTheirResidue(t *testing.T) {
	for n := -300; n <= 300; n++ {
		if got, want := impl.Hash([]int{n, 4, n}), wantHash(n, 4, n); got != want {
			t.Errorf("Hash({%d, 4, %d}) = %d, want %d", n, n, got, want)
		}
		if impl.Hash([]int{n}) != impl.Hash([]int{n + impl.Modulus}) || impl.Hash([]int{n}) != impl.Hash([]int{n - impl.Modulus}) {
			t.Errorf("the hash of %d is not that of its residue", n)
		}
	}
	if impl.Hash([]int{-5}) == impl.Hash([]int{5}) {
		t.Error("the sign of a value is lost")
	}
}

func TestKeyedHash(t *testing.T) {
	for _, key := range someKeys {
		for _, values := range someValues {
			arg, unchanged := guarded(values, 77)
			want := wantHash(slices.Concat([]int{key}, values, []int{key})...)
			if got := impl.KeyedHash(key, arg); got != want {
				t.Errorf("KeyedHash(%d, %v) = %d, want %d", key, values, got, want)
			}
			unchanged(t)
		}
	}
}

func TestKeyedHashDependsOnEachValue(t *testing.T) {
	values := []int{4, 0, -7, 4, 1000000, impl.Modulus - 1, 12}
	for _, key := range someKeys {
		hash := impl.KeyedHash(key, values)
		for i := range values {
			for _, d := range []int{1, -1, 2, 256, 65536, 1 << 31, impl.Modulus - 1, -impl.Modulus - 1} {
				other := slices.Clone(values)
				other[i] += d
				if impl.KeyedHash(key, other) == hash {
					t.Errorf("KeyedHash(%d, ..) does not depend on the value at %d: %v, %v", key, i, values, other)
				}
			}
			if impl.KeyedHash(key, slices.Delete(slices.Clone(values), i, i+1)) == hash {
				t.Errorf("KeyedHash(%d, ..) does not change without the value at %d", key, i)
			}
		}
		if impl.KeyedHash(key+1, values) == hash || impl.KeyedHash(key, append(slices.Clone(values), 0)) == hash || impl.KeyedHash(key, []int{0, 4, -7, 4, 1000000, impl.Modulus - 1, 12}) == hash {
			t.Errorf("KeyedHash(%d, ..) does not depend on the key, the count or the order", key)
		}
	}
}

func TestIsValidKey(t *testing.T) {
	for key, want := range map[int]bool{
		0: false, 1: true, 2: true, 77: true, impl.Modulus - 2: true, impl.Modulus - 1: true, impl.Modulus: false, impl.Modulus + 1: false,
		-1: false, -77: false, 1 - impl.Modulus: false, impl.MaxValue: false, math.MaxInt: false, math.MinInt: false,
	} {
		if impl.IsValidKey(key) != want {
			t.Errorf("IsValidKey(%d) = %v", key, !want)
		}
	}
}

func TestBytesToInts(t *testing.T) {
	for _, c := range []struct {
		b    []byte
		want []int
	}{
		{nil, []int{0}},
		{[]byte{}, []int{0}},
		{[]byte{0}, []int{1, 0}},
		{[]byte{9, 8}, []int{2, 9, 8}},
		{[]byte{127, 128, 255}, []int{3, 127, 128, 255}},
		{slices.Repeat([]byte{200}, 300), append([]int{300}, slices.Repeat([]int{200}, 300)...)},
	} {
		arg, unchanged := guarded(c.b, 77)
		if got := impl.BytesToInts(arg); !slices.Equal(got, c.want) {
			t.Errorf("BytesToInts(%v) = %v, want %v", c.b, got, c.want)
		}
		unchanged(t)
	}
}

func plainTexts() [][]byte {
	every := make([]byte, 256)
	for i := range every {
		every[i] = byte(i)
	}
	return [][]byte{nil, {}, {0}, {255}, []byte("hello"), every, slices.Repeat([]byte{0}, 1000), slices.Repeat([]byte("ab"), 1000)}
}

func TestEncryptAddsTheKeyStream(t *testing.T) {
	for _, key := range someKeys {
		for _, b := range plainTexts() {
			arg, unchanged := guarded(b, 77)
			got := impl.Encrypt(key, arg)
			if len(got) != len(b) {
				t.Fatalf("Encrypt(%d, %v) has %d bytes", key, b, len(got))
			}
			for i, c := range got {
				if want := (int(b[i]) + wantHash(key, i, key)) % 256; int(c) != want {
					t.Fatalf("Encrypt(%d, %v) has %d at %d, want %d", key, b, c, i, want)
				}
			}
			overwrite(got, 55)
			unchanged(t)
		}
	}
}

func TestDecryptSubtractsTheKeyStream(t *testing.T) {
	for _, key := range someKeys {
		for _, b := range plainTexts() {
			arg, unchanged := guarded(b, 77)
			got := impl.Decrypt(key, arg)
			if len(got) != len(b) {
				t.Fatalf("Decrypt(%d, %v) has %d bytes", key, b, len(got))
			}
			for i, c := range got {
				if want := impl.Mod(int(b[i])-wantHash(key, i, key), 256); int(c) != want {
					t.Fatalf("Decrypt(%d, %v) has %d at %d, want %d", key, b, c, i, want)
				}
			}
			overwrite(got, 55)
			unchanged(t)
		}
	}
}

func TestDecryptInvertsEncrypt(t *testing.T) {
	for _, key := range someKeys {
		for _, b := range plainTexts() {
			if got := impl.Decrypt(key, impl.Encrypt(key, b)); !slices.Equal(got, b) {
				t.Errorf("Decrypt(%d, Encrypt(%d, %v)) = %v", key, key, b, got)
			}
			if got := impl.Encrypt(key, impl.Decrypt(key, b)); !slices.Equal(got, b) {
				t.Errorf("Encrypt(%d, Decrypt(%d, %v)) = %v", key, key, b, got)
			}
			if len(b) >= 5 && (slices.Equal(impl.Encrypt(key, b), b) || slices.Equal(impl.Decrypt(key+1, impl.Encrypt(key, b)), b)) {
				t.Errorf("another key than %d opens %v", key, b)
			}
		}
	}
}

func TestDeriveFromString(t *testing.T) {
	for _, key := range someKeys {
		for _, label := range []string{"", "a", "ab", "ba", "colour", "\x00", "\x00\x00", "\u00e9\u20ac", "\xff\x80", strings.Repeat("label ", 100)} {
			values := []int{key, len(label)}
			for i := range len(label) {
				values = append(values, int(label[i]))
			}
			if got, want := impl.DeriveFromString(key, label), wantHash(append(values, key)...); got != want {
				t.Errorf("DeriveFromString(%d, %q) = %d, want %d", key, label, got, want)
			}
		}
	}
	if got, want := impl.DeriveFromString(5, "ab"), impl.KeyedHash(5, []int{2, 97, 98}); got != want {
		t.Errorf("DeriveFromString(5, ab) = %d, want %d", got, want)
	}
}

// keyWithHash solves KeyedHash(key, values) = want for the key, which stands in it twice: with a factor of 1000003 to the power of len(values)+1, and with 1.
func keyWithHash(values []int, want int) int {
	modulus := big.NewInt(impl.Modulus)
	factor := new(big.Int).Exp(big.NewInt(1000003), big.NewInt(int64(len(values)+1)), modulus)
	factor.Add(factor, big.NewInt(1))
	rest := big.NewInt(int64(want - wantHash(slices.Concat([]int{0}, values, []int{0})...)))
	key := rest.Mul(rest, factor.ModInverse(factor, modulus)).Mod(rest, modulus)
	return int(key.Int64())
}

func TestDeriveFromStringIsNeverZero(t *testing.T) {
	for _, label := range []string{"", "a", "ab", "label", "\xff"} {
		values := impl.BytesToInts([]byte(label))
		for _, hash := range []int{0, 1, 2, impl.Modulus - 1} {
			key := keyWithHash(values, hash)
			if got := impl.KeyedHash(key, values); got != hash {
				t.Fatalf("KeyedHash(%d, %v) = %d, want %d", key, values, got, hash)
			}
			want := hash
			if hash == 0 {
				want = 1
			}
			if got := impl.DeriveFromString(key, label); got != want {
				t.Errorf("DeriveFromString(%d, %q) = %d, want %d", key, label, got, want)
			}
		}
	}
}

func TestEqualInts(t *testing.T) {
	for _, c := range []struct {
		a, b []int
		want bool
	}{
		{nil, nil, true},
		{nil, []int{}, true},
		{[]int{}, nil, true},
		{[]int{0}, nil, false},
		{nil, []int{0}, false},
		{[]int{1, 2, 3}, []int{1, 2, 3}, true},
		{[]int{1, 2, 3}, []int{1, 2}, false},
		{[]int{1, 2}, []int{1, 2, 3}, false},
		{[]int{1, 2, 3}, []int{4, 2, 3}, false},
		{[]int{1, 2, 3}, []int{1, 4, 3}, false},
		{[]int{1, 2, 3}, []int{1, 2, 4}, false},
		{[]int{3, 2, 1}, []int{1, 2, 3}, false},
		{[]int{-1}, []int{1}, false},
		{[]int{5}, []int{5 + impl.Modulus}, false},
		{[]int{math.MinInt, math.MaxInt}, []int{math.MinInt, math.MaxInt}, true},
		{[]int{0}, []int{256}, false},
		{[]int{0}, []int{1 << 32}, false},
	} {
		if got := impl.EqualInts(c.a, c.b); got != c.want {
			t.Errorf("EqualInts(%v, %v) = %v", c.a, c.b, got)
		}
	}
}
