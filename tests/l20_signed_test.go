package tests

import (
	"math/rand"
	"slices"
	"testing"

	"loop.example/g00505/impl"
)

// modelData is what the AS of hop i signs.
func modelData(s impl.Segment, i int) []int {
	l := []int{s.Timestamp, s.Beta, i + 1}
	for _, h := range s.Hops[:i+1] {
		l = append(l, h.AS, h.Ingress, h.Egress, h.Expiry, h.MAC)
	}
	return l
}

// modelSigned signs by the words of the document.
func modelSigned(p impl.Topology, s impl.Segment) impl.SignedSegment {
	x := impl.SignedSegment{Segment: s}
	for i, h := range s.Hops {
		value := 0
		if h.AS >= 0 && h.AS < len(p.ASes) {
			value = modelSign(p.ASes[h.AS].Key, modelData(s, i))
		}
		x.Signatures = append(x.Signatures, value)
	}
	return x
}

func TestSignSegment(t *testing.T) {
	p := world()
	for _, text := range []string{"0:0>3 3:1>3 4:1>0", "0:0>1 1:1>2 2:1>0", "7:0>3"} {
		s := along(p, text)
		expectSame(t, "SignSegment", impl.SignSegment(p, s), modelSigned(p, s))
	}
	expectSame(t, "SignSegment without hops", impl.SignSegment(p, impl.Segment{Timestamp: 5, Beta: 6}), impl.SignedSegment{Segment: impl.Segment{Timestamp: 5, Beta: 6}})
	// The segment need not be valid; ASes that do not exist do not sign.
	odd := segmentOf(3, -1, 8, 3, 99, 7)
	got := impl.SignSegment(p, odd)
	expectSame(t, "SignSegment of an odd segment", got, modelSigned(p, odd))
	for i, v := range got.Signatures {
		expectBool(t, "a signature of 0", v == 0, i == 1 || i == 2 || i == 4)
	}
	expectInts(t, "SignSegment without ASes", impl.SignSegment(impl.Topology{}, odd).Signatures, 0, 0, 0, 0, 0, 0)
}

func TestASegmentThatAllHaveSignedHasNoBadSignature(t *testing.T) {
	manyWalks(t, 26, func(r *rand.Rand, p impl.Topology, s impl.Segment) {
		x := impl.SignSegment(p, s)
		expectSame(t, "SignSegment", x, modelSigned(p, s))
		expectInt(t, "FirstBadSignature", impl.FirstBadSignature(p, x), -1)
		for i := range s.Hops {
			changed := copyOf(x)
			changed.Signatures[i] = (changed.Signatures[i] + 1 + r.Intn(impl.Prime-1)) % impl.Prime
			expectInt(t, "FirstBadSignature with another signature", impl.FirstBadSignature(p, changed), i)
			for name, change := range hopChanges() {
				changed = copyOf(x)
				change(&changed.Segment.Hops[i], 1)
				expectInt(t, "FirstBadSignature with another "+name, impl.FirstBadSignature(p, changed), i)
			}
			expectInt(t, "FirstBadSignature of a part", impl.FirstBadSignature(p, impl.TruncateSigned(x, i)), -1)
		}
	})
}

func TestFirstBadSignature(t *testing.T) {
	p := world()
	x := impl.SignSegment(p, along(p, "0:0>3 3:1>3 4:1>0"))
	for n := range 3 {
		fewer := copyOf(x)
		fewer.Signatures = fewer.Signatures[:n]
		expectInt(t, "FirstBadSignature with too few signatures", impl.FirstBadSignature(p, fewer), n)
		if n > 0 {
			fewer.Signatures[n-1]++
			expectInt(t, "FirstBadSignature with too few and a wrong one", impl.FirstBadSignature(p, fewer), n-1)
		}
	}
	more := copyOf(x)
	more.Signatures = append(more.Signatures, 5, 6)
	expectInt(t, "FirstBadSignature with too many signatures", impl.FirstBadSignature(p, more), -1)
	expectInt(t, "FirstBadSignature without hops", impl.FirstBadSignature(p, impl.SignedSegment{}), -1)
	expectInt(t, "FirstBadSignature without hops", impl.FirstBadSignature(p, impl.SignedSegment{Signatures: []int{7}}), -1)
	for _, change := range []func(x *impl.SignedSegment){func(x *impl.SignedSegment) { x.Segment.Timestamp++ }, func(x *impl.SignedSegment) { x.Segment.Beta-- }} {
		other := copyOf(x)
		change(&other)
		expectInt(t, "FirstBadSignature of another segment", impl.FirstBadSignature(p, other), 0)
	}
	// The signature 0 of an AS that does not exist is a bad one.
	odd := impl.SignSegment(p, segmentOf(3, 8, 4))
	expectInt(t, "FirstBadSignature of no AS", impl.FirstBadSignature(p, odd), 1)
	expectInt(t, "FirstBadSignature of no AS", impl.FirstBadSignature(p, impl.SignSegment(p, segmentOf(-1))), 0)
	expectInt(t, "FirstBadSignature without ASes", impl.FirstBadSignature(impl.Topology{}, x), 0)
	// Valid or not, an AS may stand twice.
	expectInt(t, "FirstBadSignature of an AS twice", impl.FirstBadSignature(p, impl.SignSegment(p, segmentOf(3, 3, 3))), -1)
	swapped := copyOf(x)
	swapped.Signatures[1], swapped.Signatures[2] = swapped.Signatures[2], swapped.Signatures[1]
	expectInt(t, "FirstBadSignature with swapped signatures", impl.FirstBadSignature(p, swapped), 1)
}

// trust returns roots of ISD 0 of the world, whose voters are its cores, and certificates for all ASes of this ISD, valid from 0 to 60.
func trust() ([]impl.TrustRoot, []impl.Certificate) {
	p := world()
	x := impl.TrustRoot{Version: 1, NotAfter: 60, Voters: 3, Quorum: 2}
	x.Signatures = []impl.Signature{impl.SignAs(p, 0, impl.RootData(x)), impl.SignAs(p, 1, impl.RootData(x))}
	m := []impl.Certificate{}
	for _, r := range []int{0, 1, 3, 4} {
		m = append(m, impl.IssueCertificate(p, r, 1, 1, 0, 60))
	}
	return []impl.TrustRoot{x}, m
}

func TestSignedSegmentValid(t *testing.T) {
	p := world()
	l, m := trust()
	x := modelSigned(p, along(p, "0:0>3 3:1>3 4:1>0"))
	for now, want := range map[int]bool{9: false, 10: true, 11: true, 59: true, 60: true, 61: false, 100: false, -1: false} {
		expectBool(t, "SignedSegmentValid at "+impl.FormatInt(now), impl.SignedSegmentValid(p, l, m, x, now), want)
	}
	short := copyOf(x)
	short.Segment.Hops[1].Expiry = 30
	short = modelSigned(p, build(p, 10, 500, short.Segment.Hops...))
	for now, want := range map[int]bool{10: true, 30: true, 31: false} {
		expectBool(t, "SignedSegmentValid of a short one", impl.SignedSegmentValid(p, l, m, short, now), want)
	}
	for i := range x.Signatures {
		other := copyOf(x)
		other.Signatures[i]++
		expectBool(t, "SignedSegmentValid with a wrong signature", impl.SignedSegmentValid(p, l, m, other, 20), false)
	}
	fewer, more := copyOf(x), copyOf(x)
	fewer.Signatures = fewer.Signatures[:2]
	more.Signatures = append(more.Signatures, 0)
	expectBool(t, "SignedSegmentValid with one signature less", impl.SignedSegmentValid(p, l, m, fewer, 20), false)
	expectBool(t, "SignedSegmentValid with one signature more", impl.SignedSegmentValid(p, l, m, more, 20), false)
	for i, s := range []impl.Segment{along(p, "0:0>3 3:1>3"), along(p, "3:0>3 4:1>0"), {}, {Timestamp: 10, Beta: 500, Hops: []impl.Hop{{AS: 0, Egress: 3, Expiry: 90}, {AS: 3, Ingress: 1, Expiry: 90}}}} {
		if impl.SignedSegmentValid(p, l, m, modelSigned(p, s), 20) {
			t.Errorf("segment %d is not usable", i)
		}
	}
	unsigned := copyOf(l)
	unsigned[0].Signatures = nil
	for _, chain := range [][]impl.TrustRoot{nil, {}, unsigned, {l[0], l[0]}} {
		expectBool(t, "SignedSegmentValid with an invalid chain", impl.SignedSegmentValid(p, chain, m, x, 20), false)
	}
	expectBool(t, "SignedSegmentValid without ASes", impl.SignedSegmentValid(impl.Topology{}, l, m, x, 20), false)
}

func TestSignedSegmentValidAsksForCertificates(t *testing.T) {
	p := world()
	l, m := trust()
	x := modelSigned(p, along(p, "0:0>3 3:1>3 4:1>0"))
	for i, c := range m {
		without := slices.Delete(slices.Clone(m), i, i+1)
		expectBool(t, "SignedSegmentValid without a certificate", impl.SignedSegmentValid(p, l, without, x, 20), c.AS == 1)
		late := slices.Clone(m)
		late[i].NotBefore = 21
		expectBool(t, "SignedSegmentValid with an invalid certificate", impl.SignedSegmentValid(p, l, late, x, 20), c.AS == 1)
	}
	expectBool(t, "SignedSegmentValid without certificates", impl.SignedSegmentValid(p, l, nil, x, 20), false)
	// AS 2 and AS 7 are in other ISDs, so that they need no certificate.
	core := modelSigned(p, along(p, "0:0>1 1:1>2 2:1>6 7:3>0"))
	expectBool(t, "SignedSegmentValid through other ISDs", impl.SignedSegmentValid(p, l, m, core, 20), true)
	expectBool(t, "SignedSegmentValid through other ISDs", impl.SignedSegmentValid(p, l, m[1:], core, 20), false)
	other := modelSigned(p, along(p, "2:0>3 5:1>2 6:1>0"))
	expectBool(t, "SignedSegmentValid in another ISD", impl.SignedSegmentValid(p, l, nil, other, 20), true)
	expectBool(t, "SignedSegmentValid in another ISD without a chain", impl.SignedSegmentValid(p, nil, nil, other, 20), false)
}

func TestFilterSigned(t *testing.T) {
	p := world()
	l, m := trust()
	good := []impl.SignedSegment{}
	for _, text := range []string{"0:0>3 3:1>3 4:1>0", "2:0>3 5:1>0", "0:0>1 1:1>0", "0:0>3 3:1>3 4:1>0"} {
		good = append(good, modelSigned(p, along(p, text)))
	}
	bad := impl.TruncateSigned(good[0], 2)
	want := []impl.Segment{}
	for _, x := range good {
		want = append(want, x.Segment)
	}
	expectSame(t, "FilterSigned of all", impl.FilterSigned(p, l, m, good, 20), want)
	expectSame(t, "FilterSigned of some", impl.FilterSigned(p, l, m, []impl.SignedSegment{bad, good[2], {}, good[0], bad}, 20), []impl.Segment{want[2], want[0]})
	expectSame(t, "FilterSigned without certificates", impl.FilterSigned(p, l, nil, good, 20), want[1:2])
	expectSame(t, "FilterSigned of none", impl.FilterSigned(p, l, m, []impl.SignedSegment{bad, {}}, 20), nil)
	expectSame(t, "FilterSigned of nothing", impl.FilterSigned(p, l, m, nil, 20), nil)
	expectSame(t, "FilterSigned too late", impl.FilterSigned(p, l, m, good, 101), nil)
	expectSame(t, "FilterSigned with an invalid chain", impl.FilterSigned(p, nil, m, good, 20), nil)
}

func TestTruncateSigned(t *testing.T) {
	p := world()
	x := modelSigned(p, along(p, "0:0>3 3:1>3 4:1>0"))
	for i := range 4 {
		want := impl.SignedSegment{Segment: impl.Segment{Timestamp: 10, Beta: 500, Hops: x.Segment.Hops[:i]}, Signatures: x.Signatures[:i]}
		expectSame(t, "TruncateSigned", impl.TruncateSigned(x, i), want)
	}
	for _, i := range append(strange(), 4, 5) {
		expectSame(t, "TruncateSigned outside", impl.TruncateSigned(x, i), x)
	}
	fewer, more := copyOf(x), copyOf(x)
	fewer.Signatures = fewer.Signatures[:1]
	more.Signatures = append(more.Signatures, 5, 6, 7)
	expectSame(t, "TruncateSigned to the signatures", impl.TruncateSigned(fewer, 1), impl.TruncateSigned(x, 1))
	expectSame(t, "TruncateSigned to nothing", impl.TruncateSigned(fewer, 0), impl.TruncateSigned(x, 0))
	for i := 2; i <= 4; i++ {
		expectSame(t, "TruncateSigned beyond the signatures", impl.TruncateSigned(fewer, i), fewer)
	}
	expectSame(t, "TruncateSigned of too many signatures", impl.TruncateSigned(more, 3), x)
	for i := 4; i <= 6; i++ {
		expectSame(t, "TruncateSigned beyond the hops", impl.TruncateSigned(more, i), more)
	}
	empty := impl.SignedSegment{Signatures: []int{3}}
	expectSame(t, "TruncateSigned without hops", impl.TruncateSigned(empty, 0), impl.SignedSegment{})
	expectSame(t, "TruncateSigned without hops", impl.TruncateSigned(empty, 1), empty)
}

func TestSignedDataSize(t *testing.T) {
	size := 0
	for n := range 20 {
		x := impl.SignedSegment{Segment: impl.Segment{Hops: make([]impl.Hop, n)}}
		if n > 0 {
			size += len(modelData(x.Segment, n-1))
		}
		expectInt(t, "SignedDataSize", impl.SignedDataSize(x), size)
		x.Signatures = make([]int, 3)
		expectInt(t, "SignedDataSize with signatures", impl.SignedDataSize(x), size)
	}
	expectInt(t, "SignedDataSize of MaxHops hops", impl.SignedDataSize(impl.SignedSegment{Segment: segmentOf(0, 1, 2, 3, 4, 5, 6, 7)}), 204)
}

func TestSignedSegmentsShareNoMemory(t *testing.T) {
	p := world()
	l, m := trust()
	x := modelSigned(p, along(p, "0:0>3 3:1>3 4:1>0"))
	expectPure(t, "SignSegment", impl.SignSegment, p, x.Segment)
	expectPure(t, "FirstBadSignature", impl.FirstBadSignature, p, x)
	expectPure(t, "SignedSegmentValid", impl.SignedSegmentValid, p, l, m, x, 20)
	expectPure(t, "FilterSigned", impl.FilterSigned, p, l, m, []impl.SignedSegment{x, {}, x}, 20)
	expectPure(t, "SignedDataSize", impl.SignedDataSize, x)
	for i := -1; i <= 4; i++ {
		expectPure(t, "TruncateSigned", impl.TruncateSigned, x, i)
	}
	expectUnsharedParts(t, "FilterSigned", impl.FilterSigned(p, l, m, []impl.SignedSegment{x, x}, 20))
}
