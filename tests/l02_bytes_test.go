package tests

import (
	"bytes"
	"math"
	"math/rand"
	"slices"
	"testing"

	"loop.example/g00505/impl"
)

// varint is the encoding of n, made with shifts and masks.
func varint(n int) []byte {
	b := []byte{byte(n & 127)}
	for n >>= 7; n > 0; n >>= 7 {
		b[len(b)-1] |= 128
		b = append(b, byte(n&127))
	}
	return b
}

// modelRead finds the only integer whose encoding stands at the offset.
func modelRead(b []byte, at int) (int, int, bool) {
	if at < 0 || at > len(b) {
		return 0, 0, false
	}
	n := 0
	for i := at; i < len(b) && i < at+6; i++ {
		n += int(b[i]&127) << (7 * (i - at))
		if n <= impl.MaxInt && bytes.Equal(b[at:i+1], varint(n)) {
			return n, i + 1, true
		}
	}
	return 0, 0, false
}

func expectRead(t *testing.T, b []byte, at int, want int, wantNext int) {
	t.Helper()
	if n, next, ok := impl.ReadVarint(b, at); n != want || next != wantNext || !ok {
		t.Errorf("ReadVarint(%v, %d) = %d, %d, %v; want %d, %d, true", b, at, n, next, ok, want, wantNext)
	}
}

func expectNotRead(t *testing.T, b []byte, at int) {
	t.Helper()
	if n, next, ok := impl.ReadVarint(b, at); n != 0 || next != 0 || ok {
		t.Errorf("ReadVarint(%v, %d) = %d, %d, %v; want 0, 0, false", b, at, n, next, ok)
	}
}

func TestAppendVarintOfWrittenNumbers(t *testing.T) {
	cases := []struct {
		n    int
		want []byte
	}{
		{0, []byte{0}}, {1, []byte{1}}, {127, []byte{127}}, {128, []byte{128, 1}}, {129, []byte{129, 1}}, {255, []byte{255, 1}}, {256, []byte{128, 2}},
		{300, []byte{172, 2}}, {16383, []byte{255, 127}}, {16384, []byte{128, 128, 1}}, {2097151, []byte{255, 255, 127}}, {2097152, []byte{128, 128, 128, 1}},
		{impl.MaxInt, []byte{128, 160, 148, 165, 141, 29}}, {impl.MaxInt - 1, []byte{255, 159, 148, 165, 141, 29}},
	}
	for _, c := range cases {
		for _, front := range [][]byte{nil, {}, {9}, {128, 0, 255}} {
			if b, want := impl.AppendVarint(front, c.n), slices.Concat(front, c.want); !slices.Equal(b, want) {
				t.Errorf("AppendVarint(%v, %d) = %v; want %v", front, c.n, b, want)
			}
		}
		expectRead(t, c.want, 0, c.n, len(c.want))
	}
}

func TestAppendVarintOutsideItsRange(t *testing.T) {
	for _, n := range []int{-1, -2, -128, -impl.MaxInt, math.MinInt, impl.MaxInt + 1, impl.MaxInt + 2, 1 << 42, math.MaxInt} {
		for _, b := range [][]byte{nil, {}, {0}, {9, 200}} {
			if r := impl.AppendVarint(b, n); !slices.Equal(r, b) {
				t.Errorf("AppendVarint(%v, %d) = %v", b, n, r)
			}
		}
	}
}

func TestVarintsAreDecodedFromTheirEncodings(t *testing.T) {
	for _, n := range numbers() {
		if n < 0 || n > impl.MaxInt {
			continue
		}
		b := impl.AppendVarint([]byte{255, 1}, n)
		if want := append([]byte{255, 1}, varint(n)...); !slices.Equal(b, want) {
			t.Errorf("AppendVarint of %d = %v; want %v", n, b, want)
		}
		expectRead(t, b, 2, n, len(b))
		expectRead(t, append(b, 0, 255), 2, n, len(b))
		expectRead(t, append(b, 255), 2, n, len(b))
		for end := 2; end < len(b); end++ {
			expectNotRead(t, b[:end], 2)
		}
	}
}

func TestReadVarintAtOffsets(t *testing.T) {
	b := []byte{5, 172, 2, 0, 130}
	expectRead(t, b, 0, 5, 1)
	expectRead(t, b, 1, 300, 3)
	expectRead(t, b, 2, 2, 3)
	expectRead(t, b, 3, 0, 4)
	for _, at := range append(strange(), 4, 5, 6, 7) {
		expectNotRead(t, b, at)
	}
	for _, at := range append(strange(), 0, 1) {
		expectNotRead(t, nil, at)
		expectNotRead(t, []byte{}, at)
	}
}

// Elements beyond the length of a slice are not read.
func TestReadVarintStopsAtTheLength(t *testing.T) {
	b := []byte{128, 1, 7}
	expectNotRead(t, b[:1], 0)
	expectNotRead(t, b[:2], 2)
	expectRead(t, b[:2], 0, 128, 2)
}

func TestReadVarintRejectsGroupsOfZeroBits(t *testing.T) {
	expectRead(t, []byte{0}, 0, 0, 1)
	expectRead(t, []byte{0, 0}, 0, 0, 1)
	expectRead(t, []byte{128, 128, 128, 128, 128, 1}, 0, 1<<35, 6)
	for groups := 2; groups <= 8; groups++ {
		for _, first := range []byte{128, 129, 255} {
			b := append(bytes.Repeat([]byte{first}, groups-1), 0)
			expectNotRead(t, b, 0)
			expectNotRead(t, append(b, 1), 0)
		}
	}
}

func TestReadVarintRejectsMoreThanSixGroups(t *testing.T) {
	expectNotRead(t, []byte{128, 128, 128, 128, 128, 128, 1}, 0)
	expectNotRead(t, []byte{129, 128, 128, 128, 128, 128, 0}, 0)
	expectNotRead(t, []byte{255, 255, 255, 255, 255, 255}, 0)
	expectNotRead(t, bytes.Repeat([]byte{128}, 100), 0)
	expectNotRead(t, append(bytes.Repeat([]byte{128}, 9), 1), 0)
	expectRead(t, []byte{1, 128, 128, 128, 128, 128, 1}, 1, 1<<35, 7)
}

func TestReadVarintRejectsMoreThanMaxInt(t *testing.T) {
	expectRead(t, varint(impl.MaxInt), 0, impl.MaxInt, 6)
	for _, n := range []int{impl.MaxInt + 1, impl.MaxInt + 2, impl.MaxInt + 128, 2 * impl.MaxInt, 1<<42 - 1} {
		if len(varint(n)) != 6 {
			t.Fatal(n)
		}
		expectNotRead(t, varint(n), 0)
	}
	expectNotRead(t, varint(math.MaxInt), 0)
}

func TestReadVarintOfAllShortTexts(t *testing.T) {
	for x := range 256 {
		for y := range 256 {
			b := []byte{byte(x), byte(y)}
			compareRead(t, b, 0)
			compareRead(t, b, 1)
		}
	}
	r := rand.New(rand.NewSource(2))
	ends := []byte{0, 1, 127, 128, 129, 160, 255, 29, 141, 148, 165}
	for range 100000 {
		b := make([]byte, r.Intn(9))
		for i := range b {
			b[i] = ends[r.Intn(len(ends))]
		}
		compareRead(t, b, r.Intn(4)-1)
	}
}

func compareRead(t *testing.T, b []byte, at int) {
	t.Helper()
	want, wantNext, wantOK := modelRead(b, at)
	if n, next, ok := impl.ReadVarint(b, at); n != want || next != wantNext || ok != wantOK {
		t.Fatalf("ReadVarint(%v, %d) = %d, %d, %v; want %d, %d, %v", b, at, n, next, ok, want, wantNext, wantOK)
	}
}

func TestAppendBytes(t *testing.T) {
	long := bytes.Repeat([]byte{7}, 300)
	cases := []struct{ b, s, want []byte }{
		{nil, nil, []byte{0}},
		{[]byte{}, []byte{}, []byte{0}},
		{[]byte{9}, nil, []byte{9, 0}},
		{[]byte{9}, []byte("ab"), []byte{9, 2, 'a', 'b'}},
		{[]byte{1, 2}, []byte{255}, []byte{1, 2, 1, 255}},
		{nil, long[:127], append([]byte{127}, long[:127]...)},
		{nil, long[:128], append([]byte{128, 1}, long[:128]...)},
		{[]byte{3}, long, append([]byte{3, 172, 2}, long...)},
	}
	for _, c := range cases {
		if b := impl.AppendBytes(c.b, c.s); !slices.Equal(b, c.want) {
			t.Errorf("AppendBytes(%v, %v) = %v; want %v", c.b, c.s, b, c.want)
		}
	}
}

func expectBytesRead(t *testing.T, b []byte, at int, most int, want []byte, wantNext int) {
	t.Helper()
	if s, next, ok := impl.ReadBytes(b, at, most); !slices.Equal(s, want) || next != wantNext || !ok {
		t.Errorf("ReadBytes(%v, %d, %d) = %v, %d, %v; want %v, %d, true", b, at, most, s, next, ok, want, wantNext)
	}
}

func expectBytesNotRead(t *testing.T, b []byte, at int, most int) {
	t.Helper()
	if s, next, ok := impl.ReadBytes(b, at, most); len(s) != 0 || next != 0 || ok {
		t.Errorf("ReadBytes(%v, %d, %d) = %v, %d, %v; want none, 0, false", b, at, most, s, next, ok)
	}
}

func TestReadBytes(t *testing.T) {
	b := []byte{9, 2, 'a', 'b', 0, 1}
	expectBytesRead(t, b, 1, 2, []byte("ab"), 4)
	expectBytesRead(t, b, 1, 3, []byte("ab"), 4)
	expectBytesRead(t, b, 1, math.MaxInt, []byte("ab"), 4)
	expectBytesRead(t, b, 4, 0, nil, 5)
	expectBytesRead(t, b, 4, 5, nil, 5)
	expectBytesNotRead(t, b, 1, 1)
	expectBytesNotRead(t, b, 1, 0)
	expectBytesNotRead(t, b, 5, 9) // one byte is said to follow
	expectBytesNotRead(t, b, 0, 9) // nine are
	expectBytesNotRead(t, b, 6, 9)
	for _, most := range []int{-1, -2, -100, math.MinInt} {
		expectBytesNotRead(t, b, 1, most)
		expectBytesNotRead(t, b, 4, most)
	}
	for _, at := range append(strange(), 6, 7) {
		expectBytesNotRead(t, b, at, 9)
	}
	expectBytesNotRead(t, nil, 0, 9)
	expectBytesNotRead(t, []byte{128, 0}, 0, 9)
	expectBytesNotRead(t, []byte{129}, 0, 9)
	expectBytesNotRead(t, append(varint(impl.MaxInt), 1, 2), 0, math.MaxInt)
	expectBytesNotRead(t, []byte{2, 'a', 'b'}[:2], 0, 9)
}

func TestByteSlicesAreDecodedFromTheirEncodings(t *testing.T) {
	for n := range 400 {
		s := make([]byte, n)
		for i := range s {
			s[i] = byte(i*7 + n)
		}
		b := impl.AppendBytes([]byte{200, 1}, s)
		expectBytesRead(t, b, 2, n, s, len(b))
		expectBytesRead(t, append(b, 128), 2, n+1, s, len(b))
		expectBytesNotRead(t, b, 2, n-1)
		expectBytesNotRead(t, b[:len(b)-1], 2, n)
	}
}

func TestEncodeInts(t *testing.T) {
	cases := []struct {
		l    []int
		want []byte
	}{
		{nil, nil}, {[]int{}, nil}, {[]int{0}, []byte{0}}, {[]int{1, 300, 2}, []byte{1, 172, 2, 2}}, {[]int{0, 0, 0}, []byte{0, 0, 0}},
		{[]int{-1}, nil}, {[]int{1, -1, 2}, []byte{1, 2}}, {[]int{impl.MaxInt + 1, 5}, []byte{5}}, {[]int{5, math.MinInt, math.MaxInt}, []byte{5}},
		{[]int{impl.MaxInt, 127, 128}, []byte{128, 160, 148, 165, 141, 29, 127, 128, 1}},
	}
	for _, c := range cases {
		if b := impl.EncodeInts(c.l); !slices.Equal(b, c.want) {
			t.Errorf("EncodeInts(%v) = %v; want %v", c.l, b, c.want)
		}
	}
}

func expectIntsRead(t *testing.T, b []byte, at int, n int, want []int, wantNext int) {
	t.Helper()
	if l, next, ok := impl.DecodeInts(b, at, n); !slices.Equal(l, want) || next != wantNext || !ok {
		t.Errorf("DecodeInts(%v, %d, %d) = %v, %d, %v; want %v, %d, true", b, at, n, l, next, ok, want, wantNext)
	}
}

func expectIntsNotRead(t *testing.T, b []byte, at int, n int) {
	t.Helper()
	if l, next, ok := impl.DecodeInts(b, at, n); len(l) != 0 || next != 0 || ok {
		t.Errorf("DecodeInts(%v, %d, %d) = %v, %d, %v; want none, 0, false", b, at, n, l, next, ok)
	}
}

func TestDecodeInts(t *testing.T) {
	b := []byte{1, 172, 2, 2}
	expectIntsRead(t, b, 0, 3, []int{1, 300, 2}, 4)
	expectIntsRead(t, b, 0, 2, []int{1, 300}, 3)
	expectIntsRead(t, b, 1, 2, []int{300, 2}, 4)
	expectIntsRead(t, b, 3, 1, []int{2}, 4)
	expectIntsNotRead(t, b, 0, 4)
	expectIntsNotRead(t, b, 4, 1)
	expectIntsNotRead(t, b[:2], 0, 2)
	expectIntsNotRead(t, []byte{1, 128, 0}, 0, 2)
	for at := range 5 {
		expectIntsRead(t, b, at, 0, nil, at)
	}
	for _, at := range append(strange(), 5, 6) {
		expectIntsNotRead(t, b, at, 0)
		expectIntsNotRead(t, b, at, 1)
	}
	expectIntsRead(t, nil, 0, 0, nil, 0)
	expectIntsNotRead(t, nil, 0, 1)
}

func TestDecodeIntsOfAtMostAHundred(t *testing.T) {
	b := make([]byte, 200)
	expectIntsRead(t, b, 0, 99, make([]int, 99), 99)
	expectIntsRead(t, b, 50, 100, make([]int, 100), 150)
	expectIntsRead(t, b, 100, 100, make([]int, 100), 200)
	expectIntsNotRead(t, b, 101, 100)
	for _, n := range []int{-1, -2, 101, 102, 200, math.MinInt, math.MaxInt} {
		expectIntsNotRead(t, b, 0, n)
	}
}

func TestIntsAreDecodedFromTheirEncodings(t *testing.T) {
	l := []int{}
	for _, n := range numbers() {
		if n >= 0 && n <= impl.MaxInt {
			l = append(l, n)
		}
	}
	for len(l) > 100 {
		b := append([]byte{255}, impl.EncodeInts(l[:100])...)
		expectIntsRead(t, b, 1, 100, l[:100], len(b))
		expectIntsNotRead(t, b[:len(b)-1], 1, 100)
		l = l[37:]
	}
}

func TestEqualBytes(t *testing.T) {
	cases := []struct {
		a, b string
		want bool
	}{
		{"", "", true}, {"a", "a", true}, {"ab", "ab", true}, {"a", "b", false}, {"a", "", false}, {"", "a", false},
		{"ab", "a", false}, {"a", "ab", false}, {"ab", "ba", false}, {"ab", "ac", false}, {"\x00", "", false}, {"\x00\xff", "\x00\xff", true},
	}
	for _, c := range cases {
		expectBool(t, "EqualBytes("+c.a+", "+c.b+")", impl.EqualBytes([]byte(c.a), []byte(c.b)), c.want)
	}
	expectBool(t, "EqualBytes(nil, empty)", impl.EqualBytes(nil, []byte{}), true)
	expectBool(t, "EqualBytes(empty, nil)", impl.EqualBytes([]byte{}, nil), true)
}

func TestByteEncodingLeavesArgumentsAlone(t *testing.T) {
	plain := []byte{1, 172, 2, 3, 1, 2, 3}
	for _, n := range []int{0, 300, impl.MaxInt, -1, impl.MaxInt + 1} {
		b := withSpare(plain, 77)
		r := impl.AppendVarint(b, n)
		expectUntouched(t, b, plain, 77)
		expectUnshared(t, r, b, 99)
	}
	for _, s := range [][]byte{nil, {5, 6}, bytes.Repeat([]byte{1}, 200)} {
		b, c := withSpare(plain, 77), withSpare(s, 78)
		r := impl.AppendBytes(b, c)
		expectUntouched(t, b, plain, 77)
		expectUntouched(t, c, s, 78)
		expectUnshared(t, r, b, 99)
		expectUnshared(t, r, c, 98)
	}
	b := withSpare(plain, 77)
	s, _, ok := impl.ReadBytes(b, 3, 3)
	if !ok {
		t.Error("nothing was read")
	}
	expectUnshared(t, s, b, 99)
	expectUntouched(t, b, plain, 77)
	// A slice that is appended to itself.
	own := withSpare(plain, 77)
	r := impl.AppendBytes(own[:2], own)
	if want := slices.Concat(plain[:2], []byte{7}, plain); !slices.Equal(r, want) {
		t.Errorf("AppendBytes of itself = %v; want %v", r, want)
	}
	expectUntouched(t, own, plain, 77)
}
