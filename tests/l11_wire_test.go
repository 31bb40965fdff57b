package tests

import (
	"bytes"
	"math"
	"math/rand"
	"slices"
	"testing"

	"loop.example/g00505/impl"
)

// encodeAll is the encoding of the numbers, one behind the other.
func encodeAll(l ...int) []byte {
	b := []byte{}
	for _, n := range l {
		b = append(b, varint(n)...)
	}
	return b
}

func modelHop(h impl.Hop) []byte {
	return encodeAll(h.AS, h.Ingress, h.Egress, h.Expiry, h.MAC)
}

func modelSegment(s impl.Segment) []byte {
	b := encodeAll(s.Timestamp, s.Beta, len(s.Hops))
	for _, h := range s.Hops {
		b = append(b, modelHop(h)...)
	}
	return b
}

func expectHopRead(t *testing.T, b []byte, at int, want impl.Hop, wantNext int) {
	t.Helper()
	if h, next, ok := impl.ReadHop(b, at); h != want || next != wantNext || !ok {
		t.Errorf("ReadHop(%v, %d) = %+v, %d, %v; want %+v, %d, true", b, at, h, next, ok, want, wantNext)
	}
}

func expectHopNotRead(t *testing.T, b []byte, at int) {
	t.Helper()
	if h, next, ok := impl.ReadHop(b, at); h != (impl.Hop{}) || next != 0 || ok {
		t.Errorf("ReadHop(%v, %d) = %+v, %d, %v; want nothing", b, at, h, next, ok)
	}
}

func expectSegmentRead(t *testing.T, b []byte, at int, want impl.Segment, wantNext int) {
	t.Helper()
	s, next, ok := impl.ReadSegment(b, at)
	expectSegment(t, "ReadSegment", s, want)
	if next != wantNext || !ok {
		t.Errorf("ReadSegment(%v, %d): %d, %v; want %d, true", b, at, next, ok, wantNext)
	}
}

func expectSegmentNotRead(t *testing.T, b []byte, at int) {
	t.Helper()
	s, next, ok := impl.ReadSegment(b, at)
	expectSegment(t, "ReadSegment", s, impl.Segment{})
	if next != 0 || ok {
		t.Errorf("ReadSegment(%v, %d): %d, %v; want 0, false", b, at, next, ok)
	}
}

// invalidHops are hops without a negative number, each with one field out of range, or with equal interfaces.
func invalidHops() []impl.Hop {
	return []impl.Hop{
		{}, {AS: 8, Egress: 1}, {AS: 1, Ingress: 7, Egress: 1}, {AS: 1, Ingress: 1, Egress: 7}, {AS: 1, Ingress: 3, Egress: 3},
		{Egress: 1, Expiry: impl.MaxTime + 1}, {Egress: 1, MAC: impl.Prime}, {AS: impl.MaxInt, Egress: 1},
	}
}

// negativeHops cannot be encoded at all.
func negativeHops() []impl.Hop {
	return []impl.Hop{{AS: -1, Egress: 1}, {Ingress: -1, Egress: 1}, {Ingress: 1, Egress: -1}, {Egress: 1, Expiry: -1}, {Egress: 1, MAC: -1}, {Egress: 1, MAC: math.MaxInt}}
}

func TestAppendHop(t *testing.T) {
	h := impl.Hop{AS: 2, Ingress: 1, Egress: 6, Expiry: 300, MAC: 16384}
	want := []byte{9, 2, 1, 6, 172, 2, 128, 128, 1}
	if b := impl.AppendHop([]byte{9}, h); !slices.Equal(b, want) {
		t.Errorf("AppendHop = %v; want %v", b, want)
	}
	expectHopRead(t, want, 1, h, 9)
	for _, invalid := range append(invalidHops(), negativeHops()...) {
		for _, b := range [][]byte{nil, {}, {9, 200}} {
			if r := impl.AppendHop(b, invalid); !slices.Equal(r, b) {
				t.Errorf("AppendHop(%v, %+v) = %v", b, invalid, r)
			}
		}
	}
}

func TestHopsAreDecodedFromTheirEncodings(t *testing.T) {
	r := rand.New(rand.NewSource(13))
	hops := []impl.Hop{{Egress: 1}, {Ingress: 1}, {AS: 7, Ingress: 6, Egress: 5, Expiry: impl.MaxTime, MAC: impl.Prime - 1}, {AS: 7, Ingress: 5, Egress: 6, Expiry: impl.MaxTime}}
	for range 2000 {
		hops = append(hops, randomHop(r))
	}
	for _, h := range hops {
		b := impl.AppendHop([]byte{255, 128}, h)
		if want := append([]byte{255, 128}, modelHop(h)...); !slices.Equal(b, want) {
			t.Fatalf("AppendHop of %+v = %v; want %v", h, b, want)
		}
		expectHopRead(t, b, 2, h, len(b))
		expectHopRead(t, append(b, 0, 1, 2), 2, h, len(b))
		for end := 2; end < len(b); end++ {
			expectHopNotRead(t, b[:end], 2)
		}
	}
}

func TestReadHopRejectsInvalidHops(t *testing.T) {
	for _, h := range invalidHops() {
		expectHopNotRead(t, append([]byte{9}, modelHop(h)...), 1)
	}
	expectHopNotRead(t, []byte{2, 1, 6, 128, 0, 5}, 0) // a needless group
	expectHopNotRead(t, []byte{130, 0, 1, 6, 3, 5}, 0)
	expectHopNotRead(t, []byte{2, 1, 6, 3, 133, 128, 0}, 0)
	good := []byte{2, 1, 6, 3, 5}
	expectHopRead(t, good, 0, impl.Hop{AS: 2, Ingress: 1, Egress: 6, Expiry: 3, MAC: 5}, 5)
	for _, at := range append(strange(), 1, 5, 6) {
		expectHopNotRead(t, good, at)
	}
	expectHopNotRead(t, nil, 0)
}

func TestEncodable(t *testing.T) {
	h := impl.Hop{Egress: 1}
	cases := []struct {
		s    impl.Segment
		want bool
	}{
		{impl.Segment{}, true}, {impl.Segment{Timestamp: impl.MaxTime, Beta: impl.Prime - 1}, true}, {impl.Segment{Hops: []impl.Hop{h}}, true},
		{impl.Segment{Hops: slices.Repeat([]impl.Hop{h}, 8)}, true}, {impl.Segment{Hops: slices.Repeat([]impl.Hop{h}, 9)}, false},
		{impl.Segment{Timestamp: -1}, false}, {impl.Segment{Timestamp: impl.MaxTime + 1}, false}, {impl.Segment{Beta: -1}, false}, {impl.Segment{Beta: impl.Prime}, false},
		{impl.Segment{Timestamp: math.MinInt}, false}, {impl.Segment{Beta: math.MaxInt}, false},
	}
	for _, c := range cases {
		expectBool(t, "Encodable", impl.Encodable(c.s), c.want)
		if c.want {
			expectInt(t, "SegmentSize", impl.SegmentSize(c.s), len(modelSegment(c.s)))
		}
	}
	for _, invalid := range append(invalidHops(), negativeHops()...) {
		for i := range 3 {
			hops := []impl.Hop{h, h, h}
			hops[i] = invalid
			expectBool(t, "Encodable with an invalid hop", impl.Encodable(impl.Segment{Hops: hops}), false)
		}
	}
}

func TestSegmentsThatCannotBeEncoded(t *testing.T) {
	h := impl.Hop{Egress: 1}
	segments := []impl.Segment{{Timestamp: -1}, {Timestamp: impl.MaxTime + 1}, {Beta: -1}, {Beta: impl.Prime}, {Hops: slices.Repeat([]impl.Hop{h}, 9)}, {Hops: []impl.Hop{h, {}}}, {Hops: []impl.Hop{{}, h}}}
	for _, s := range segments {
		for _, b := range [][]byte{nil, {}, {9, 200}} {
			if r := impl.AppendSegment(b, s); !slices.Equal(r, b) {
				t.Errorf("AppendSegment(%v, %+v) = %v", b, s, r)
			}
		}
		expectInt(t, "SegmentSize", impl.SegmentSize(s), 0)
	}
}

func TestSegmentsAreDecodedFromTheirEncodings(t *testing.T) {
	compare := func(s impl.Segment) {
		b := impl.AppendSegment([]byte{255, 128}, s)
		if want := append([]byte{255, 128}, modelSegment(s)...); !slices.Equal(b, want) {
			t.Fatalf("AppendSegment of %+v = %v; want %v", s, b, want)
		}
		expectInt(t, "SegmentSize", impl.SegmentSize(s), len(b)-2)
		expectSegmentRead(t, b, 2, s, len(b))
		expectSegmentRead(t, append(b, 0, 1, 2), 2, s, len(b))
		for end := 2; end < len(b); end++ {
			expectSegmentNotRead(t, b[:end], 2)
		}
	}
	manyWalks(t, 14, func(r *rand.Rand, p impl.Topology, s impl.Segment) { compare(s) })
	r := rand.New(rand.NewSource(15))
	for n := range 9 {
		for range 20 {
			s := impl.Segment{Timestamp: r.Intn(impl.MaxTime + 1), Beta: r.Intn(impl.Prime)}
			for range n {
				s.Hops = append(s.Hops, randomHop(r))
			}
			compare(s)
		}
	}
	compare(impl.Segment{})
	compare(impl.Segment{Timestamp: impl.MaxTime, Beta: impl.Prime - 1})
}

func TestReadSegmentRejectsOtherEncodings(t *testing.T) {
	h := impl.Hop{Egress: 1}
	nine := impl.Segment{Hops: slices.Repeat([]impl.Hop{h}, 9)}
	expectSegmentNotRead(t, modelSegment(nine), 0)
	expectSegmentNotRead(t, encodeAll(0, 0, impl.MaxInt), 0)
	expectSegmentNotRead(t, append(encodeAll(0, 0, impl.MaxInt), bytes.Repeat([]byte{1, 0}, 500)...), 0)
	expectSegmentNotRead(t, encodeAll(impl.MaxTime+1, 0, 0), 0)
	expectSegmentNotRead(t, encodeAll(0, impl.Prime, 0), 0)
	expectSegmentNotRead(t, encodeAll(0, 0), 0)
	expectSegmentNotRead(t, []byte{128, 0, 0, 0}, 0)
	expectSegmentNotRead(t, []byte{5, 133, 0, 0}, 0)
	expectSegmentNotRead(t, []byte{5, 5, 128, 0}, 0)
	for _, invalid := range invalidHops() {
		expectSegmentNotRead(t, modelSegment(impl.Segment{Hops: []impl.Hop{invalid, h}}), 0)
		expectSegmentNotRead(t, modelSegment(impl.Segment{Hops: []impl.Hop{h, invalid}}), 0)
	}
	good := modelSegment(impl.Segment{Timestamp: 5, Beta: 6, Hops: []impl.Hop{h}})
	expectSegmentRead(t, good, 0, impl.Segment{Timestamp: 5, Beta: 6, Hops: []impl.Hop{h}}, len(good))
	for _, at := range append(strange(), len(good), len(good)+1) {
		expectSegmentNotRead(t, good, at)
	}
	expectSegmentNotRead(t, nil, 0)
	expectSegmentNotRead(t, []byte{}, 0)
}

func TestSegmentIDOfWrittenSegments(t *testing.T) {
	expectInt(t, "SegmentID of the zero segment", impl.SegmentID(impl.Segment{}), modelDigest([]int{0, 0}))
	s := impl.Segment{Timestamp: 10, Beta: 500, Hops: []impl.Hop{{AS: 1, Ingress: 2, Egress: 3, Expiry: 4, MAC: 5}, {AS: 6, Ingress: 5, Egress: 4, Expiry: 3, MAC: 2}}}
	expectInt(t, "SegmentID", impl.SegmentID(s), modelDigest([]int{10, 500, 1, 2, 3, 4, 6, 5, 4, 3}))
	wild := impl.Segment{Timestamp: -1, Beta: math.MaxInt, Hops: []impl.Hop{{AS: -1, Ingress: -2, Egress: 99, Expiry: math.MinInt, MAC: -5}}}
	expectInt(t, "SegmentID of an invalid segment", impl.SegmentID(wild), modelDigest([]int{-1, math.MaxInt, -1, -2, 99, math.MinInt}))
}

func TestSegmentIDDoesNotDependOnMACs(t *testing.T) {
	s := along(world(), "0:0>3 3:1>3 4:1>0")
	id := impl.SegmentID(s)
	for i := range s.Hops {
		for name, change := range hopChanges() {
			g := cloneSegment(s)
			change(&g.Hops[i], 1)
			expectBool(t, "SegmentID with another "+name, impl.SegmentID(g) == id, name == "MAC")
		}
	}
	g := s
	g.Timestamp++
	expectBool(t, "SegmentID with another timestamp", impl.SegmentID(g) == id, false)
	g = s
	g.Beta++
	expectBool(t, "SegmentID with another beta", impl.SegmentID(g) == id, false)
	g = s
	g.Hops = g.Hops[:2]
	expectBool(t, "SegmentID with fewer hops", impl.SegmentID(g) == id, false)
}

func TestSegmentEncodingLeavesArgumentsAlone(t *testing.T) {
	plain := []byte{9, 200}
	whole := along(world(), "0:0>3 3:1>3 4:1>0")
	mark := impl.Hop{AS: 77}
	for _, s := range []impl.Segment{whole, {}, {Timestamp: -1}} {
		b := withSpare(plain, 77)
		hops := withSpare(s.Hops, mark)
		r := impl.AppendSegment(b, impl.Segment{Timestamp: s.Timestamp, Beta: s.Beta, Hops: hops})
		expectUntouched(t, b, plain, 77)
		expectUntouched(t, hops, s.Hops, mark)
		expectUnshared(t, r, b, 99)
	}
	for _, h := range []impl.Hop{whole.Hops[0], {}} {
		b := withSpare(plain, 77)
		r := impl.AppendHop(b, h)
		expectUntouched(t, b, plain, 77)
		expectUnshared(t, r, b, 99)
	}
	b := impl.AppendSegment(nil, whole)
	first, _, _ := impl.ReadSegment(b, 0)
	second, _, _ := impl.ReadSegment(b, 0)
	first.Hops[0].AS = 5
	expectSegment(t, "the second segment", second, whole)
}
