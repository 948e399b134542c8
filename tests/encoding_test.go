package tests

import (
	"encoding/binary"
	"math"
	"slices"
	"testing"

	"loop.example/g03007/impl"
)

// telling holds the numbers on both sides of each length of a varint, and other ones between.
func telling() []int {
	l := []int{0, 1, 2, 5, 64, 100, 300, 1000003, impl.MaxValue / 2, impl.MaxValue - 1, impl.MaxValue}
	for bit := range 40 {
		for d := -2; d <= 2; d++ {
			if n := 1<<bit + d; impl.InRange(n, 0, impl.MaxValue) {
				l = append(l, n)
			}
		}
	}
	return l
}

var notEncoded = []int{-1, -2, -127, -128, -300, -impl.MaxValue, impl.MaxValue + 1, impl.MaxValue + 128, 1 << 42, 1 << 49, math.MaxInt, math.MinInt}

func TestAppendUvarintExamples(t *testing.T) {
	for _, c := range []struct {
		n    int
		want []byte
	}{
		{0, []byte{0}},
		{1, []byte{1}},
		{127, []byte{127}},
		{128, []byte{128, 1}},
		{129, []byte{129, 1}},
		{255, []byte{255, 1}},
		{256, []byte{128, 2}},
		{300, []byte{172, 2}},
		{16383, []byte{255, 127}},
		{16384, []byte{128, 128, 1}},
		{2097151, []byte{255, 255, 127}},
		{2097152, []byte{128, 128, 128, 1}},
		{268435455, []byte{255, 255, 255, 127}},
		{268435456, []byte{128, 128, 128, 128, 1}},
		{34359738367, []byte{255, 255, 255, 255, 127}},
		{34359738368, []byte{128, 128, 128, 128, 128, 1}},
		{impl.MaxValue, []byte{128, 160, 148, 165, 141, 29}},
	} {
		if got := impl.AppendUvarint(nil, c.n); !slices.Equal(got, c.want) {
			t.Errorf("AppendUvarint(nil, %d) = %v, want %v", c.n, got, c.want)
		}
		if got := impl.AppendUvarint([]byte{7, 200}, c.n); !slices.Equal(got, append([]byte{7, 200}, c.want...)) {
			t.Errorf("AppendUvarint({7, 200}, %d) = %v", c.n, got)
		}
	}
}

func TestAppendUvarintIsLEB128(t *testing.T) {
	for _, n := range telling() {
		if got, want := impl.AppendUvarint(nil, n), binary.AppendUvarint(nil, uint64(n)); !slices.Equal(got, want) {
			t.Errorf("AppendUvarint(nil, %d) = %v, want %v", n, got, want)
		}
	}
}

func TestAppendUvarintRejects(t *testing.T) {
	for _, n := range notEncoded {
		for _, b := range [][]byte{nil, {}, {9}, {1, 2, 3}} {
			arg, unchanged := guarded(b, 77)
			got := impl.AppendUvarint(arg, n)
			if !slices.Equal(got, b) {
				t.Errorf("AppendUvarint(%v, %d) = %v", b, n, got)
			}
			overwrite(got, 55)
			unchanged(t)
		}
	}
}

func TestAppendUvarintCopies(t *testing.T) {
	for _, n := range []int{0, 127, 128, 300, impl.MaxValue} {
		arg, unchanged := guarded([]byte{1, 2, 3}, 77)
		got := impl.AppendUvarint(arg, n)
		unchanged(t)
		overwrite(got, 55)
		unchanged(t)
	}
}

func checkUvarint(t *testing.T, b []byte, offset int, n int, next int, ok bool) {
	t.Helper()
	arg, unchanged := guarded(b, 1)
	gotN, gotNext, gotOk := impl.ReadUvarint(arg, offset)
	if gotN != n || gotNext != next || gotOk != ok {
		t.Errorf("ReadUvarint(%v, %d) = %d, %d, %v, want %d, %d, %v", b, offset, gotN, gotNext, gotOk, n, next, ok)
	}
	unchanged(t)
}

func TestReadUvarintInvertsAppendUvarint(t *testing.T) {
	for _, n := range telling() {
		b := impl.AppendUvarint(nil, n)
		checkUvarint(t, b, 0, n, len(b), true)
		before := []byte{128, 255, 0}
		in := append(impl.AppendUvarint(before, n), 255, 128, 1)
		checkUvarint(t, in, len(before), n, len(before)+len(b), true)
	}
}

func TestReadUvarintAtOffsets(t *testing.T) {
	b := []byte{172, 2, 0, 128, 1, 127}
	checkUvarint(t, b, 0, 300, 2, true)
	checkUvarint(t, b, 1, 2, 2, true)
	checkUvarint(t, b, 2, 0, 3, true)
	checkUvarint(t, b, 3, 128, 5, true)
	checkUvarint(t, b, 4, 1, 5, true)
	checkUvarint(t, b, 5, 127, 6, true)
	for _, offset := range []int{6, 7, 100, -1, -2, -6, math.MaxInt, math.MaxInt - 5, math.MinInt} {
		checkUvarint(t, b, offset, 0, 0, false)
	}
	for _, offset := range []int{0, 1, -1, math.MaxInt, math.MinInt} {
		checkUvarint(t, nil, offset, 0, 0, false)
		checkUvarint(t, []byte{}, offset, 0, 0, false)
	}
}

func TestReadUvarintRejects(t *testing.T) {
	for _, b := range [][]byte{
		// The input ends before the final byte.
		{128}, {172}, {255}, {128, 128}, {255, 255, 255, 255, 255}, {128, 128, 128, 128, 128, 128},
		// The last group is zero.
		{128, 0}, {129, 0}, {172, 0}, {255, 0}, {172, 130, 0}, {128, 128, 0}, {255, 255, 255, 0},
		{128, 128, 128, 0}, {129, 128, 128, 128, 0}, {128, 128, 128, 128, 128, 0}, {255, 255, 255, 255, 255, 0},
		// The varint is longer than six bytes.
		{128, 128, 128, 128, 128, 128, 0}, {128, 128, 128, 128, 128, 128, 1}, {129, 128, 128, 128, 128, 128, 0},
		{255, 255, 255, 255, 255, 255, 255, 255, 255, 1}, {128, 128, 128, 128, 128, 128, 128, 128, 128, 128, 1},
		// The integer exceeds MaxValue.
		{129, 160, 148, 165, 141, 29}, {128, 161, 148, 165, 141, 29}, {128, 160, 148, 165, 141, 30}, {128, 128, 128, 128, 128, 32},
		{255, 255, 255, 255, 255, 127},
	} {
		checkUvarint(t, b, 0, 0, 0, false)
		checkUvarint(t, append([]byte{3, 4}, b...), 2, 0, 0, false)
	}
}

// wantUvarint accepts just what the standard library reads and writes again as the same few bytes.
func wantUvarint(b []byte) (int, int, bool) {
	n, size := binary.Uvarint(b)
	if size < 1 || size > 6 || n > impl.MaxValue || !slices.Equal(binary.AppendUvarint(nil, n), b[:size]) {
		return 0, 0, false
	}
	return int(n), size, true
}

func TestReadUvarintOfAllShortInputs(t *testing.T) {
	inputs := [][]byte{{}}
	for range 7 {
		var longer [][]byte
		for _, b := range inputs {
			for _, c := range []byte{0, 1, 29, 127, 128, 255} {
				longer = append(longer, append(slices.Clone(b), c))
			}
		}
		for _, b := range longer {
			n, next, ok := wantUvarint(b)
			if gotN, gotNext, gotOk := impl.ReadUvarint(b, 0); gotN != n || gotNext != next || gotOk != ok {
				t.Fatalf("ReadUvarint(%v, 0) = %d, %d, %v, want %d, %d, %v", b, gotN, gotNext, gotOk, n, next, ok)
			}
		}
		inputs = longer
	}
	for first := range 256 {
		for second := range 256 {
			b := []byte{byte(first), byte(second)}
			n, next, ok := wantUvarint(b)
			checkUvarint(t, b, 0, n, next, ok)
		}
	}
}

func TestAppendBytes(t *testing.T) {
	long := slices.Repeat([]byte{5}, 300)
	for _, c := range []struct{ b, data, want []byte }{
		{nil, nil, []byte{0}},
		{[]byte{}, []byte{}, []byte{0}},
		{[]byte{1}, nil, []byte{1, 0}},
		{[]byte{1}, []byte{7, 8}, []byte{1, 2, 7, 8}},
		{nil, []byte{0}, []byte{1, 0}},
		{nil, long[:127], append([]byte{127}, long[:127]...)},
		{nil, long[:128], append([]byte{128, 1}, long[:128]...)},
		{[]byte{9}, long, append([]byte{9, 172, 2}, long...)},
	} {
		b, same := guarded(c.b, 77)
		data, alike := guarded(c.data, 66)
		got := impl.AppendBytes(b, data)
		if !slices.Equal(got, c.want) {
			t.Errorf("AppendBytes(%v, %v) = %v", c.b, c.data, got)
		}
		overwrite(got, 55)
		same(t)
		alike(t)
	}
}

func checkBytes(t *testing.T, b []byte, offset int, maxLen int, data []byte, next int, ok bool) {
	t.Helper()
	arg, unchanged := guarded(b, 1)
	gotData, gotNext, gotOk := impl.ReadBytes(arg, offset, maxLen)
	if !slices.Equal(gotData, data) || gotNext != next || gotOk != ok {
		t.Errorf("ReadBytes(%v, %d, %d) = %v, %d, %v, want %v, %d, %v", b, offset, maxLen, gotData, gotNext, gotOk, data, next, ok)
	}
	overwrite(gotData, 55)
	unchanged(t)
}

func TestReadBytes(t *testing.T) {
	b := []byte{1, 2, 7, 8, 0, 3, 4, 5, 6}
	checkBytes(t, b, 1, 2, []byte{7, 8}, 4, true)
	checkBytes(t, b, 1, 3, []byte{7, 8}, 4, true)
	checkBytes(t, b, 1, math.MaxInt, []byte{7, 8}, 4, true)
	checkBytes(t, b, 0, 1, []byte{2}, 2, true)
	checkBytes(t, b, 4, 0, nil, 5, true)
	checkBytes(t, b, 4, 5, nil, 5, true)
	checkBytes(t, b, 5, 3, []byte{4, 5, 6}, 9, true)
	checkBytes(t, []byte{0}, 0, 0, nil, 1, true)
}

func TestReadBytesRejects(t *testing.T) {
	for _, c := range []struct {
		b      []byte
		offset int
		maxLen int
	}{
		// The length exceeds maxLen.
		{[]byte{2, 7, 8}, 0, 1}, {[]byte{2, 7, 8}, 0, 0}, {[]byte{2, 7, 8}, 0, -1}, {[]byte{0}, 0, -1}, {[]byte{0}, 0, math.MinInt},
		{[]byte{3, 7, 8, 9}, 0, 2},
		// The input is too short.
		{[]byte{1}, 0, 9}, {[]byte{2, 7}, 0, 9}, {[]byte{3, 7, 8}, 0, 3}, {[]byte{1, 9, 2, 7}, 2, 9}, {[]byte{172, 2, 1}, 0, 1000},
		{[]byte{128, 160, 148, 165, 141, 29, 1}, 0, math.MaxInt},
		// There is no valid length prefix.
		{nil, 0, 9}, {[]byte{1, 5}, 2, 9}, {[]byte{1, 5}, 3, 9}, {[]byte{1, 5}, -1, 9}, {[]byte{1, 5}, math.MaxInt, 9}, {[]byte{1, 5}, math.MinInt, 9},
		{[]byte{128}, 0, 9}, {[]byte{128, 0, 1, 2}, 0, 9}, {[]byte{129, 0, 1, 2}, 0, 9}, {[]byte{128, 128, 128, 128, 128, 128, 1}, 0, 9},
		{[]byte{129, 160, 148, 165, 141, 29, 1}, 0, math.MaxInt},
	} {
		checkBytes(t, c.b, c.offset, c.maxLen, nil, 0, false)
	}
}

func TestReadBytesInvertsAppendBytes(t *testing.T) {
	for size := range 400 {
		data := make([]byte, size)
		for i := range data {
			data[i] = byte(7*i + size)
		}
		b := append(impl.AppendBytes([]byte{9, 9}, data), 3, 3)
		end := len(b) - 2
		checkBytes(t, b, 2, size, data, end, true)
		checkBytes(t, b[:end], 2, size, data, end, true)
		checkBytes(t, b, 2, size-1, nil, 0, false)
		checkBytes(t, b[:end-1], 2, size, nil, 0, false)
	}
}

func TestEncodeInts(t *testing.T) {
	for _, c := range []struct {
		values []int
		want   []byte
	}{
		{nil, nil},
		{[]int{}, nil},
		{[]int{0}, []byte{0}},
		{[]int{5, 300}, []byte{5, 172, 2}},
		{[]int{300, 5, 300}, []byte{172, 2, 5, 172, 2}},
		{[]int{-1}, nil},
		{[]int{-1, 5, impl.MaxValue + 1, 6, math.MinInt, math.MaxInt}, []byte{5, 6}},
		{[]int{impl.MaxValue, 0}, []byte{128, 160, 148, 165, 141, 29, 0}},
	} {
		arg, unchanged := guarded(c.values, 77)
		if got := impl.EncodeInts(arg); !slices.Equal(got, c.want) {
			t.Errorf("EncodeInts(%v) = %v, want %v", c.values, got, c.want)
		}
		unchanged(t)
	}
	for _, n := range notEncoded {
		if got := impl.EncodeInts([]int{n, 1, n}); !slices.Equal(got, []byte{1}) {
			t.Errorf("EncodeInts omits not just %d: %v", n, got)
		}
	}
}

func checkInts(t *testing.T, b []byte, offset int, count int, values []int, next int, ok bool) {
	t.Helper()
	arg, unchanged := guarded(b, 1)
	gotValues, gotNext, gotOk := impl.DecodeInts(arg, offset, count)
	if !slices.Equal(gotValues, values) || gotNext != next || gotOk != ok {
		t.Errorf("DecodeInts(%v, %d, %d) = %v, %d, %v, want %v, %d, %v", b, offset, count, gotValues, gotNext, gotOk, values, next, ok)
	}
	unchanged(t)
}

func TestDecodeInts(t *testing.T) {
	b := []byte{5, 172, 2, 0, 127}
	checkInts(t, b, 0, 0, nil, 0, true)
	checkInts(t, b, 0, 1, []int{5}, 1, true)
	checkInts(t, b, 0, 2, []int{5, 300}, 3, true)
	checkInts(t, b, 0, 4, []int{5, 300, 0, 127}, 5, true)
	checkInts(t, b, 1, 2, []int{300, 0}, 4, true)
	checkInts(t, b, 2, 1, []int{2}, 3, true)
	checkInts(t, b, 4, 1, []int{127}, 5, true)
	checkInts(t, b, 4, 0, nil, 4, true)
	checkInts(t, b, 5, 0, nil, 5, true)
	checkInts(t, nil, 0, 0, nil, 0, true)
	// What stands behind the last one does not matter.
	checkInts(t, []byte{5, 128, 0}, 0, 1, []int{5}, 1, true)
	checkInts(t, []byte{128, 0, 5}, 1, 2, []int{0, 5}, 3, true)
}

func TestDecodeIntsRejects(t *testing.T) {
	b := []byte{5, 172, 2, 0}
	for _, c := range [][2]int{
		{0, -1}, {0, -100}, {0, 101}, {0, math.MaxInt}, {0, math.MinInt},
		{-1, 0}, {-1, 1}, {5, 0}, {5, 1}, {6, 0}, {math.MaxInt, 0}, {math.MinInt, 0}, {math.MaxInt, 1}, {math.MinInt, 1},
		{4, 1}, {0, 4}, {0, 5}, {1, 3}, {3, 2}, {0, 100},
	} {
		checkInts(t, b, c[0], c[1], nil, 0, false)
	}
	for _, b := range [][]byte{
		{128, 0, 5}, {5, 128, 0}, {5, 172}, {5, 172, 130, 0}, {5, 129, 160, 148, 165, 141, 29}, {5, 128, 128, 128, 128, 128, 128, 1},
	} {
		checkInts(t, b, 0, 2, nil, 0, false)
	}
	checkInts(t, nil, 0, 1, nil, 0, false)
	checkInts(t, nil, 1, 0, nil, 0, false)
	checkInts(t, nil, -1, 0, nil, 0, false)
}

func TestDecodeIntsOfManyIntegers(t *testing.T) {
	var values []int
	for i := range 102 {
		values = append(values, i*i*i*977)
	}
	b := impl.EncodeInts(values)
	for count := range 101 {
		end := len(impl.EncodeInts(values[:count]))
		checkInts(t, b, 0, count, values[:count], end, true)
		checkInts(t, b[:end], 0, count, values[:count], end, true)
		if count > 0 {
			checkInts(t, b[:end-1], 0, count, nil, 0, false)
		}
	}
	checkInts(t, b, 0, 101, nil, 0, false)
	checkInts(t, b, 0, 102, nil, 0, false)
}

func TestDecodeIntsInvertsEncodeInts(t *testing.T) {
	for l := range slices.Chunk(telling(), 100) {
		b := impl.EncodeInts(l)
		checkInts(t, b, 0, len(l), l, len(b), true)
		checkInts(t, append([]byte{255}, b...), 1, len(l), l, len(b)+1, true)
	}
}

func TestEqualBytes(t *testing.T) {
	for _, c := range []struct {
		a, b []byte
		want bool
	}{
		{nil, nil, true},
		{nil, []byte{}, true},
		{[]byte{}, nil, true},
		{[]byte{0}, nil, false},
		{nil, []byte{0}, false},
		{[]byte{1, 2, 3}, []byte{1, 2, 3}, true},
		{[]byte{1, 2, 3}, []byte{1, 2}, false},
		{[]byte{1, 2}, []byte{1, 2, 3}, false},
		{[]byte{1, 2, 3}, []byte{4, 2, 3}, false},
		{[]byte{1, 2, 3}, []byte{1, 4, 3}, false},
		{[]byte{1, 2, 3}, []byte{1, 2, 4}, false},
		{[]byte{3, 2, 1}, []byte{1, 2, 3}, false},
		{[]byte{0, 0}, []byte{0}, false},
		{[]byte{0}, []byte{128}, false},
		{[]byte{255}, []byte{255}, true},
	} {
		if got := impl.EqualBytes(c.a, c.b); got != c.want {
			t.Errorf("EqualBytes(%v, %v) = %v", c.a, c.b, got)
		}
	}
}
