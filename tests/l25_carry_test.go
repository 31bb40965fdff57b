package tests

import (
	"bytes"
	"math"
	"math/rand"
	"slices"
	"testing"

	"loop.example/g00505/impl"
)

// modelInts lists the integers of a path by the words of the document.
func modelInts(p impl.Path) []int {
	l := []int{}
	for _, part := range p.Parts {
		l = append(l, part.Kind, part.Timestamp, part.Beta, len(part.Hops))
		for _, h := range part.Hops {
			l = append(l, h.AS, h.Ingress, h.Egress, h.Expiry, h.MAC)
		}
	}
	return l
}

// modelPathBytes encodes by the words of the document; the path need not be encodable.
func modelPathBytes(p impl.Path) []byte {
	return append(varint(len(p.Parts)), encodeAll(modelInts(p)...)...)
}

func expectPathRead(t *testing.T, b []byte, at int, want impl.Path, wantNext int) {
	t.Helper()
	if p, next, ok := impl.ReadPath(b, at); !same(p, want) || next != wantNext || !ok {
		t.Errorf("ReadPath(%v, %d) = %+v, %d, %v; want %+v, %d, true", b, at, p, next, ok, want, wantNext)
	}
}

func expectPathNotRead(t *testing.T, b []byte, at int) {
	t.Helper()
	if p, next, ok := impl.ReadPath(b, at); !same(p, impl.Path{}) || next != 0 || ok {
		t.Errorf("ReadPath(%v, %d) = %+v, %d, %v; want nothing", b, at, p, next, ok)
	}
}

func expectNoPath(t *testing.T, what string, l []int) {
	t.Helper()
	if p, ok := impl.PathFromInts(l); !same(p, impl.Path{}) || ok {
		t.Errorf("%s: PathFromInts(%v) = %+v, %v; want nothing", what, l, p, ok)
	}
}

// randomPart returns a part with n hops that can be encoded.
func randomPart(r *rand.Rand, n int) impl.PathPart {
	p := impl.PathPart{Kind: 1 + r.Intn(4), Timestamp: r.Intn(impl.MaxTime + 1), Beta: r.Intn(impl.Prime)}
	for range n {
		p.Hops = append(p.Hops, randomHop(r))
	}
	return p
}

// encodablePaths are paths of all numbers of parts and hops, at the ends of all ranges.
func encodablePaths() []impl.Path {
	r := rand.New(rand.NewSource(36))
	low := impl.PathPart{Kind: 1}
	high := impl.PathPart{Kind: 4, Timestamp: impl.MaxTime, Beta: impl.Prime - 1, Hops: slices.Repeat([]impl.Hop{{AS: 7, Ingress: 6, Egress: 5, Expiry: impl.MaxTime, MAC: impl.Prime - 1}}, 8)}
	l := []impl.Path{{}, pathOfParts(low), pathOfParts(low, low, low), pathOfParts(high), pathOfParts(high, high, high), pathOfParts(low, high), pathOfParts(high, low)}
	for a := range 9 {
		l = append(l, pathOfParts(randomPart(r, a)))
		for b := range 9 {
			l = append(l, pathOfParts(randomPart(r, a), randomPart(r, b)), pathOfParts(randomPart(r, b), randomPart(r, a), randomPart(r, r.Intn(9))))
		}
	}
	return append(l, worldPaths()...)
}

// tooLargePaths have one field out of its range each, but no negative number.
func tooLargePaths() []impl.Path {
	h := impl.Hop{Egress: 1}
	good := impl.PathPart{Kind: 2, Timestamp: 3, Beta: 4, Hops: []impl.Hop{h}}
	l := []impl.Path{pathOfParts(good, good, good, good), {Parts: slices.Repeat([]impl.PathPart{good}, 20)}}
	bad := []impl.PathPart{
		{Kind: 0, Hops: good.Hops}, {Kind: 5, Hops: good.Hops}, {}, {Kind: 1, Timestamp: impl.MaxTime + 1}, {Kind: 1, Beta: impl.Prime},
		{Kind: 1, Hops: slices.Repeat([]impl.Hop{h}, 9)}, {Kind: 1, Hops: slices.Repeat([]impl.Hop{h}, 300)},
	}
	for _, invalid := range invalidHops() {
		bad = append(bad, impl.PathPart{Kind: 1, Hops: []impl.Hop{invalid, h}}, impl.PathPart{Kind: 1, Hops: []impl.Hop{h, invalid}})
	}
	for _, part := range bad {
		l = append(l, pathOfParts(part), pathOfParts(part, good), pathOfParts(good, good, part))
	}
	return l
}

// negativePaths cannot be encoded at all.
func negativePaths() []impl.Path {
	h := impl.Hop{Egress: 1}
	l := []impl.Path{pathOfParts(impl.PathPart{Kind: -1}), pathOfParts(impl.PathPart{Kind: 1, Timestamp: -1}), pathOfParts(impl.PathPart{Kind: 1, Beta: -1}), pathOfParts(impl.PathPart{Kind: math.MaxInt}), pathOfParts(impl.PathPart{Kind: math.MinInt})}
	for _, invalid := range negativeHops() {
		l = append(l, pathOfParts(impl.PathPart{Kind: 1, Hops: []impl.Hop{h, invalid}}))
	}
	return l
}

func TestPathsAreDecodedFromTheirEncodings(t *testing.T) {
	for _, p := range encodablePaths() {
		expectBool(t, "EncodablePath", impl.EncodablePath(p), true)
		want := modelPathBytes(p)
		expectInt(t, "PathSize", impl.PathSize(p), len(want))
		for _, before := range [][]byte{nil, {}, {255, 128}, bytes.Repeat([]byte{3}, 40)} {
			b := impl.AppendPath(before, p)
			if !slices.Equal(b, slices.Concat(before, want)) {
				t.Fatalf("AppendPath(%v, %+v) = %v", before, p, b)
			}
			expectPathRead(t, b, len(before), p, len(b))
			expectPathRead(t, append(slices.Clone(b), 0, 1, 2), len(before), p, len(b))
		}
		for end := range want {
			expectPathNotRead(t, want[:end], 0)
		}
	}
}

func TestAppendPathOfAWrittenPath(t *testing.T) {
	p := pathOfParts(impl.PathPart{Kind: 3, Timestamp: 300, Beta: 16384, Hops: []impl.Hop{{AS: 2, Ingress: 1, Egress: 6, Expiry: 5, MAC: 128}}}, impl.PathPart{Kind: 4})
	want := []byte{9, 2, 3, 172, 2, 128, 128, 1, 1, 2, 1, 6, 5, 128, 1, 4, 0, 0, 0}
	if b := impl.AppendPath([]byte{9}, p); !slices.Equal(b, want) {
		t.Errorf("AppendPath = %v; want %v", b, want)
	}
	expectInts(t, "PathInts", impl.PathInts(p), 3, 300, 16384, 1, 2, 1, 6, 5, 128, 4, 0, 0, 0)
	if b := impl.AppendPath(nil, impl.Path{}); !slices.Equal(b, []byte{0}) {
		t.Errorf("AppendPath of the empty path = %v", b)
	}
	expectInt(t, "PathSize of the empty path", impl.PathSize(impl.Path{}), 1)
}

func TestPathsThatCannotBeEncoded(t *testing.T) {
	for i, p := range append(tooLargePaths(), negativePaths()...) {
		if impl.EncodablePath(p) {
			t.Errorf("path %d is encodable: %+v", i, p)
		}
		for _, b := range [][]byte{nil, {}, {9, 200}} {
			if r := impl.AppendPath(b, p); !slices.Equal(r, b) {
				t.Errorf("AppendPath(%v, %+v) = %v", b, p, r)
			}
		}
		expectInt(t, "PathSize", impl.PathSize(p), 0)
		// Their integers are listed all the same.
		expectInts(t, "PathInts", impl.PathInts(p), modelInts(p)...)
		expectNoPath(t, "a path that is not encodable", modelInts(p))
	}
}

func TestReadPathRejectsOtherEncodings(t *testing.T) {
	for _, p := range tooLargePaths() {
		expectPathNotRead(t, modelPathBytes(p), 0)
		expectPathNotRead(t, append([]byte{7}, modelPathBytes(p)...), 1)
	}
	many := bytes.Repeat([]byte{1}, 500)
	for _, n := range []int{4, 9, 127, 128, impl.MaxInt} {
		expectPathNotRead(t, append(varint(n), many...), 0)
		expectPathNotRead(t, append(encodeAll(1, 1, 1, 1, n+5), many...), 0)
	}
	expectPathNotRead(t, []byte{128, 0}, 0)                  // needless groups of zero bits
	expectPathNotRead(t, []byte{1, 129, 0, 0, 0, 0}, 0)      // in the kind
	expectPathNotRead(t, []byte{1, 1, 0, 0, 128, 0}, 0)      // in the number of hops
	expectPathNotRead(t, []byte{1, 1, 128, 128, 0, 0, 0}, 0) // in the timestamp
	good := modelPathBytes(longPath())
	expectPathRead(t, good, 0, longPath(), len(good))
	for _, at := range append(strange(), len(good), len(good)+1) {
		if at < 0 || at >= len(good) {
			expectPathNotRead(t, good, at)
		}
	}
	expectPathNotRead(t, nil, 0)
	expectPathNotRead(t, []byte{}, 0)
	expectPathNotRead(t, []byte{0}, 1)
	expectPathRead(t, []byte{5, 0, 5}, 1, impl.Path{}, 2)
}

func TestPathsAreDecodedFromTheirInts(t *testing.T) {
	for _, p := range encodablePaths() {
		l := impl.PathInts(p)
		expectInts(t, "PathInts", l, modelInts(p)...)
		if q, ok := impl.PathFromInts(l); !ok || !same(q, p) {
			t.Fatalf("PathFromInts(%v) = %+v, %v", l, q, ok)
		}
		for n := range l {
			// What is cut off may be whole parts.
			q, ok := impl.PathFromInts(l[:n])
			if ok && !slices.Equal(modelInts(q), l[:n]) || !ok && !same(q, impl.Path{}) || ok != endsWithAPart(p, n) {
				t.Fatalf("PathFromInts(%v) = %+v, %v", l[:n], q, ok)
			}
		}
		expectNoPath(t, "one integer more", append(slices.Clone(l), 1))
	}
	if p, ok := impl.PathFromInts(nil); !ok || !same(p, impl.Path{}) {
		t.Errorf("PathFromInts of nothing = %+v, %v", p, ok)
	}
	if p, ok := impl.PathFromInts([]int{}); !ok || !same(p, impl.Path{}) {
		t.Errorf("PathFromInts of an empty list = %+v, %v", p, ok)
	}
}

// endsWithAPart reports whether n integers are those of the first parts of the path.
func endsWithAPart(p impl.Path, n int) bool {
	for i := range len(p.Parts) + 1 {
		if len(modelInts(impl.Path{Parts: p.Parts[:i]})) == n {
			return true
		}
	}
	return false
}

func TestPathFromIntsWithOtherCounts(t *testing.T) {
	l := modelInts(longPath())
	for _, n := range append(strange(), 0, 1, 2, 4, 5, 8, 9) {
		other := slices.Clone(l)
		other[3] = n
		expectNoPath(t, "another number of hops", other)
		if n != 0 {
			expectNoPath(t, "no hops", []int{1, 0, 0, n})
		}
	}
	expectNoPath(t, "no number of hops", []int{1, 0, 0})
	nine := append([]int{1, 0, 0, 9}, slices.Repeat([]int{0, 0, 1, 0, 0}, 9)...)
	expectNoPath(t, "nine hops", nine)
	nine[3] = 8
	if p, ok := impl.PathFromInts(nine[:4+8*5]); !ok || len(p.Parts[0].Hops) != 8 {
		t.Errorf("PathFromInts of eight hops = %+v, %v", p, ok)
	}
	expectNoPath(t, "eight hops and one that is left", nine)
	expectNoPath(t, "four parts", slices.Repeat([]int{1, 0, 0, 0}, 4))
	expectNoPath(t, "many parts", slices.Repeat([]int{1, 0, 0, 0}, 40000))
	if p, ok := impl.PathFromInts(slices.Repeat([]int{1, 0, 0, 0}, 3)); !ok || len(p.Parts) != 3 {
		t.Errorf("PathFromInts of three parts = %+v, %v", p, ok)
	}
	for i := range l {
		other := slices.Clone(l)
		other[i] = -1
		expectNoPath(t, "a negative number", other)
		other[i] = math.MaxInt
		expectNoPath(t, "a large number", other)
	}
}

func TestHopCount(t *testing.T) {
	expectInt(t, "HopCount without parts", impl.HopCount(impl.Path{}), 0)
	expectInt(t, "HopCount without hops", impl.HopCount(pathOfParts(impl.PathPart{}, impl.PathPart{})), 0)
	// Hops where parts meet count twice, and there may be more than can be encoded.
	expectInt(t, "HopCount", impl.HopCount(longPath()), 8)
	expectInt(t, "HopCount", impl.HopCount(pathOfParts(onePart(9, 1, 1, 1), impl.PathPart{}, impl.PathPart{Hops: make([]impl.Hop, 20)})), 23)
}

func TestPathEncodingSharesNoMemory(t *testing.T) {
	for _, p := range slices.Concat(encodablePaths(), tooLargePaths(), negativePaths()) {
		expectPure(t, "AppendPath", impl.AppendPath, []byte{9, 200}, p)
		expectPure(t, "AppendPath", impl.AppendPath, []byte{}, p)
		expectPure(t, "EncodablePath", impl.EncodablePath, p)
		expectPure(t, "PathSize", impl.PathSize, p)
		expectPure(t, "PathInts", impl.PathInts, p)
		expectPure(t, "PathFromInts", impl.PathFromInts, modelInts(p))
		expectPure(t, "HopCount", impl.HopCount, p)
		if impl.EncodablePath(p) {
			expectPure(t, "ReadPath", impl.ReadPath, modelPathBytes(p), 0)
		}
	}
}
