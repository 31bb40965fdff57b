package tests

import (
	"math"
	"math/rand"
	"slices"
	"testing"

	"loop.example/g00505/impl"
)

// partKinds are the kinds of parts; the first and the third one are reversed.
func partKinds() []int {
	return []int{impl.PaUp, impl.PaCore, impl.PaReversedCore, impl.PaDown}
}

func modelReversed(kind int) bool {
	return kind == impl.PaUp || kind == impl.PaReversedCore
}

// modelPart makes a part by the words of the document, for a from that is the index of a hop.
func modelPart(s impl.Segment, kind int, from int) impl.PathPart {
	p := impl.PathPart{Kind: kind, Timestamp: s.Timestamp, Beta: s.Beta}
	for i, h := range s.Hops {
		if i < from || modelReversed(kind) {
			p.Beta = (p.Beta + h.MAC) % impl.Prime
		}
		if i >= from && modelReversed(kind) {
			p.Hops = slices.Insert(p.Hops, 0, h)
		} else if i >= from {
			p.Hops = append(p.Hops, h)
		}
	}
	return p
}

func TestPartKinds(t *testing.T) {
	expectInts(t, "kinds", partKinds(), 1, 2, 3, 4)
	for kind := -1; kind <= 6; kind++ {
		expectBool(t, "IsReversed of "+impl.FormatInt(kind), impl.IsReversed(kind), kind == 1 || kind == 3)
	}
	for _, kind := range strange() {
		expectBool(t, "IsReversed", impl.IsReversed(kind), false)
	}
}

func TestMakePart(t *testing.T) {
	s := impl.Segment{Timestamp: 10, Beta: 500, Hops: []impl.Hop{{AS: 1, Egress: 2, MAC: 7}, {AS: 2, Ingress: 1, Egress: 3, MAC: impl.Prime - 1}, {AS: 3, Ingress: 4, MAC: 20}}}
	a, b, c := s.Hops[0], s.Hops[1], s.Hops[2]
	wants := map[int][]impl.PathPart{
		impl.PaDown: {{Beta: 500, Hops: []impl.Hop{a, b, c}}, {Beta: 507, Hops: []impl.Hop{b, c}}, {Beta: 506, Hops: []impl.Hop{c}}},
		impl.PaUp:   {{Beta: 526, Hops: []impl.Hop{c, b, a}}, {Beta: 526, Hops: []impl.Hop{c, b}}, {Beta: 526, Hops: []impl.Hop{c}}},
	}
	wants[impl.PaCore], wants[impl.PaReversedCore] = wants[impl.PaDown], wants[impl.PaUp]
	for _, kind := range partKinds() {
		for from, want := range wants[kind] {
			want.Kind, want.Timestamp = kind, 10
			expectSame(t, "MakePart", impl.MakePart(s, kind, from), want)
			expectSame(t, "the model", modelPart(s, kind, from), want)
		}
		for _, from := range append(strange(), 3, 4) {
			expectSame(t, "MakePart from no hop", impl.MakePart(s, kind, from), impl.PathPart{})
		}
		expectSame(t, "MakePart without hops", impl.MakePart(impl.Segment{Timestamp: 5, Beta: 6}, kind, 0), impl.PathPart{})
		expectSame(t, "MakePart without hops", impl.MakePart(impl.Segment{Timestamp: 5, Beta: 6}, kind, -1), impl.PathPart{})
	}
	for _, kind := range append(strange(), 0, 5) {
		for from := range 3 {
			expectSame(t, "MakePart of no kind", impl.MakePart(s, kind, from), impl.PathPart{})
		}
	}
	odd := impl.Segment{Timestamp: -1, Beta: -1, Hops: []impl.Hop{{MAC: 5}, {AS: -1, MAC: -1}}}
	expectSame(t, "MakePart of an odd segment", impl.MakePart(odd, impl.PaDown, 0), impl.PathPart{Kind: 4, Timestamp: -1, Beta: -1, Hops: odd.Hops})
	expectSame(t, "MakePart of an odd segment", impl.MakePart(odd, impl.PaUp, 1), impl.PathPart{Kind: 1, Timestamp: -1, Hops: odd.Hops[1:]})
}

func TestPartInterfaces(t *testing.T) {
	hops := []impl.Hop{{Ingress: 1, Egress: 2}, {Ingress: 3, Egress: 4}, {Ingress: -5, Egress: 99}}
	for _, kind := range append(strange(), 0, 1, 2, 3, 4, 5) {
		p := impl.PathPart{Kind: kind, Hops: hops}
		for i, h := range hops {
			in, out := h.Ingress, h.Egress
			if modelReversed(kind) {
				in, out = out, in
			}
			expectInt(t, "PartIngress", impl.PartIngress(p, i), in)
			expectInt(t, "PartEgress", impl.PartEgress(p, i), out)
		}
		for _, i := range append(strange(), 3, 4) {
			expectInt(t, "PartIngress of no hop", impl.PartIngress(p, i), 0)
			expectInt(t, "PartEgress of no hop", impl.PartEgress(p, i), 0)
		}
		expectInt(t, "PartIngress without hops", impl.PartIngress(impl.PathPart{Kind: kind}, 0), 0)
		expectInt(t, "PartEgress without hops", impl.PartEgress(impl.PathPart{Kind: kind}, 0), 0)
	}
}

// worldParts are parts of valid segments of the world, in both directions, that are entered and left by all means.
func worldParts() []impl.PathPart {
	p := world()
	core, down := worldRoutes()
	l := []impl.PathPart{}
	for _, text := range append(core, down...) {
		s := along(p, text)
		for from := range s.Hops {
			for _, kind := range partKinds() {
				l = append(l, modelPart(s, kind, from))
			}
		}
	}
	return l
}

func TestAPartOfAValidSegmentIsValidAndVerifies(t *testing.T) {
	manyWalks(t, 27, func(r *rand.Rand, p impl.Topology, s impl.Segment) {
		for from := range s.Hops {
			for _, kind := range partKinds() {
				part := impl.MakePart(s, kind, from)
				if !same(part, modelPart(s, kind, from)) || !impl.ValidPart(p, part) || !impl.VerifyPart(p, part) {
					t.Fatalf("MakePart(%+v, %d, %d) = %+v", s, kind, from, part)
				}
			}
		}
	})
}

func TestValidPart(t *testing.T) {
	p := world()
	for _, part := range worldParts() {
		expectBool(t, "ValidPart", impl.ValidPart(p, part), true)
		for _, kind := range append(strange(), 0, 5) {
			other := part
			other.Kind = kind
			expectBool(t, "ValidPart of no kind", impl.ValidPart(p, other), false)
		}
		// In the other direction, only single hops lead on.
		other := part
		other.Kind = 5 - part.Kind
		expectBool(t, "ValidPart in the other direction", impl.ValidPart(p, other), len(part.Hops) == 1)
		other.Hops = nil
		expectBool(t, "ValidPart without hops", impl.ValidPart(p, other), false)
		ranges := []struct {
			set  func(x *impl.PathPart, n int)
			most int
		}{{func(x *impl.PathPart, n int) { x.Timestamp = n }, impl.MaxTime}, {func(x *impl.PathPart, n int) { x.Beta = n }, impl.Prime - 1}}
		for _, f := range ranges {
			for n, want := range map[int]bool{-1: false, 0: true, f.most: true, f.most + 1: false, math.MinInt: false, math.MaxInt: false} {
				other = part
				f.set(&other, n)
				expectBool(t, "ValidPart with "+impl.FormatInt(n), impl.ValidPart(p, other), want)
			}
		}
	}
	expectBool(t, "ValidPart of the zero part", impl.ValidPart(p, impl.PathPart{}), false)
}

func TestValidPartWithInvalidHops(t *testing.T) {
	p := world()
	for _, part := range worldParts() {
		for i := range part.Hops {
			for _, change := range []func(h *impl.Hop){
				func(h *impl.Hop) { h.AS = -1 }, func(h *impl.Hop) { h.AS = 8 }, func(h *impl.Hop) { h.Expiry = -1 }, func(h *impl.Hop) { h.Expiry = impl.MaxTime + 1 },
				func(h *impl.Hop) { h.MAC = -1 }, func(h *impl.Hop) { h.MAC = impl.Prime }, func(h *impl.Hop) { h.Ingress = h.Egress }, func(h *impl.Hop) { h.Ingress = 7 }, func(h *impl.Hop) { h.Egress = -1 },
			} {
				other := copyOf(part)
				change(&other.Hops[i])
				expectBool(t, "ValidPart with an invalid hop", impl.ValidPart(p, other), false)
			}
		}
		// The MACs need not verify, and times need not fit.
		other := copyOf(part)
		for i := range other.Hops {
			other.Hops[i].MAC, other.Hops[i].Expiry = i, 0
		}
		expectBool(t, "ValidPart with other MACs", impl.ValidPart(p, other), true)
		for n := range 8 {
			fewer := p
			fewer.ASes = p.ASes[:n]
			exist := !slices.ContainsFunc(part.Hops, func(h impl.Hop) bool { return h.AS >= n })
			expectBool(t, "ValidPart in a smaller topology", impl.ValidPart(fewer, part), exist)
		}
	}
}

func TestValidPartUpToMaxHops(t *testing.T) {
	p, hops := chainOfCores(9)
	for n := 1; n <= 9; n++ {
		for _, kind := range partKinds() {
			part := modelPart(build(p, 10, 500, hops[:n]...), kind, 0)
			expectBool(t, "ValidPart", impl.ValidPart(p, part), n <= 8)
		}
	}
	// Even in a large topology, no AS is beyond the limit, nor is one there twice.
	q := ring(8, impl.LkCore)
	around := []impl.Hop{{AS: 6, Egress: 2}, {AS: 7, Ingress: 1, Egress: 2}, {AS: 0, Ingress: 1, Egress: 2}, {AS: 1, Ingress: 1}}
	expectBool(t, "ValidPart around", impl.ValidPart(q, impl.PathPart{Kind: impl.PaCore, Hops: around}), true)
	small := ring(3, impl.LkCore)
	for _, hops := range [][]impl.Hop{
		{{AS: 0, Egress: 2}, {AS: 1, Ingress: 1, Egress: 2}, {AS: 2, Ingress: 1, Egress: 2}, {AS: 0, Ingress: 1}},
		{{AS: 0, Egress: 2}, {AS: 1, Ingress: 1, Egress: 2}, {AS: 2, Ingress: 1, Egress: 2}, {AS: 0, Ingress: 1, Egress: 2}, {AS: 1, Ingress: 1}},
	} {
		expectBool(t, "ValidPart with an AS twice", impl.ValidPart(small, impl.PathPart{Kind: impl.PaCore, Hops: hops}), false)
		expectBool(t, "ValidPart with each AS once", impl.ValidPart(small, impl.PathPart{Kind: impl.PaCore, Hops: hops[1:3]}), true)
	}
}

func TestValidPartLeadsOn(t *testing.T) {
	p := world()
	for _, part := range worldParts() {
		reversed := modelReversed(part.Kind)
		for i := range part.Hops {
			for iface := range 7 {
				for out := range 2 {
					other := copyOf(part)
					h := &other.Hops[i]
					if (out == 1) != reversed {
						h.Egress = iface
					} else {
						h.Ingress = iface
					}
					want := impl.ValidHop(*h)
					for k := 1; k < len(other.Hops); k++ {
						a, b := other.Hops[k-1], other.Hops[k]
						leaves, enters := a.Egress, b.Ingress
						if reversed {
							leaves, enters = a.Ingress, b.Egress
						}
						_, far, in, _ := modelEnd(p, a.AS, leaves)
						want = want && leaves != 0 && far == b.AS && in == enters
					}
					if impl.ValidPart(p, other) != want {
						t.Fatalf("ValidPart(%+v) = %v", other, !want)
					}
				}
			}
		}
	}
	// Even a link at interface 0 does not lead on.
	p.Links = append(p.Links, impl.Link{A: 1, AInterface: 0, B: 7, BInterface: 1, Kind: impl.LkCore})
	expectBool(t, "ValidPart through interface 0", impl.ValidPart(p, impl.PathPart{Kind: impl.PaCore, Hops: []impl.Hop{{AS: 1, Ingress: 1}, {AS: 7, Ingress: 1, Egress: 3}}}), false)
}

func TestVerifyPart(t *testing.T) {
	p := world()
	for _, part := range worldParts() {
		expectBool(t, "VerifyPart", impl.VerifyPart(p, part), true)
		for _, change := range []func(x *impl.PathPart){
			func(x *impl.PathPart) { x.Timestamp++ }, func(x *impl.PathPart) { x.Beta = (x.Beta + 1) % impl.Prime }, func(x *impl.PathPart) { x.Beta = (x.Beta + impl.Prime - 1) % impl.Prime }, func(x *impl.PathPart) { x.Kind = 5 - x.Kind },
		} {
			other := copyOf(part)
			change(&other)
			expectBool(t, "VerifyPart of another part", impl.VerifyPart(p, other), false)
		}
		for i := range part.Hops {
			for name, change := range hopChanges() {
				other := copyOf(part)
				change(&other.Hops[i], 1)
				expectBool(t, "VerifyPart with another "+name, impl.VerifyPart(p, other), false)
			}
			other := copyOf(part)
			other.Hops = append(other.Hops[:i:i], other.Hops[i+1:]...)
			expectBool(t, "VerifyPart without a hop", impl.VerifyPart(p, other), i == len(part.Hops)-1)
		}
		expectBool(t, "VerifyPart without ASes", impl.VerifyPart(impl.Topology{}, part), false)
	}
}

func TestVerifyPartAlone(t *testing.T) {
	p := world()
	for kind := -1; kind <= 6; kind++ {
		expectBool(t, "VerifyPart without hops", impl.VerifyPart(p, impl.PathPart{Kind: kind, Timestamp: -5, Beta: -5}), true)
		// Neither a valid kind nor hops that lead on are asked for.
		odd := build(p, 10, 500, impl.Hop{AS: 6, Ingress: 5, Egress: 4, Expiry: 9}, impl.Hop{AS: 6, Ingress: 5, Egress: 4, Expiry: 9})
		part := modelPart(odd, kind, 0)
		expectBool(t, "VerifyPart of an odd part", impl.VerifyPart(p, part), true)
		part.Beta++
		expectBool(t, "VerifyPart of an odd part", impl.VerifyPart(p, part), false)
	}
}

// authenticated returns a hop whose MAC verifies with this timestamp and chaining value.
func authenticated(p impl.Topology, ts int, beta int, h impl.Hop) impl.Hop {
	h.MAC = modelDigest([]int{p.ASes[h.AS].Key, ts, beta, h.AS, h.Ingress, h.Egress, h.Expiry, p.ASes[h.AS].Key})
	return h
}

// A chaining value that is out of range counts as it is for the first hop, and makes all others 0; in a reversed part, it makes the first one 0, too.
func TestVerifyPartWithValuesOutOfRange(t *testing.T) {
	p := world()
	a, b := impl.Hop{AS: 3, Ingress: 1, Egress: 3, Expiry: 9}, impl.Hop{AS: 4, Ingress: 1, Egress: 2, Expiry: 9}
	for _, beta := range []int{-1, impl.Prime, impl.Prime + 500, math.MinInt, math.MaxInt} {
		first := authenticated(p, 10, beta, a)
		part := impl.PathPart{Kind: impl.PaDown, Timestamp: 10, Beta: beta, Hops: []impl.Hop{first, authenticated(p, 10, 0, b)}}
		expectBool(t, "VerifyPart", impl.VerifyPart(p, part), true)
		part.Hops[1] = authenticated(p, 10, (beta%impl.Prime+impl.Prime+first.MAC)%impl.Prime, b)
		expectBool(t, "VerifyPart", impl.VerifyPart(p, part), false)
		first = authenticated(p, 10, 0, a)
		part = impl.PathPart{Kind: impl.PaUp, Timestamp: 10, Beta: beta, Hops: []impl.Hop{first}}
		expectBool(t, "VerifyPart of a reversed part", impl.VerifyPart(p, part), true)
		part.Hops[0] = authenticated(p, 10, beta, a)
		// The MAC takes Prime for 0.
		expectBool(t, "VerifyPart of a reversed part", impl.VerifyPart(p, part), beta == impl.Prime)
	}
	for _, mac := range []int{-1, impl.Prime, math.MinInt, math.MaxInt} {
		bad := a
		bad.MAC = mac
		for _, kind := range partKinds() {
			expectBool(t, "VerifyPart with such a MAC", impl.VerifyPart(p, impl.PathPart{Kind: kind, Timestamp: 10, Hops: []impl.Hop{bad}}), false)
		}
	}
}

func TestBetaAfter(t *testing.T) {
	hops := []impl.Hop{{MAC: 7}, {MAC: impl.Prime - 1}, {MAC: 20}}
	forward, back := []int{500, 507, 506, 526}, []int{500, 493, 494, 474}
	for kind := -1; kind <= 6; kind++ {
		p := impl.PathPart{Kind: kind, Beta: 500, Hops: hops}
		want := forward
		if modelReversed(kind) {
			want = back
		}
		for i, n := range want {
			expectInt(t, "BetaAfter", impl.BetaAfter(p, i), n)
		}
		for _, i := range append(strange(), 4, 5) {
			expectInt(t, "BetaAfter outside", impl.BetaAfter(p, i), 0)
		}
		expectInt(t, "BetaAfter without hops", impl.BetaAfter(impl.PathPart{Kind: kind, Beta: 9}, 0), 9)
		expectInt(t, "BetaAfter without hops", impl.BetaAfter(impl.PathPart{Kind: kind, Beta: 9}, 1), 0)
	}
	small := impl.PathPart{Kind: impl.PaUp, Beta: 5, Hops: hops}
	expectInts(t, "BetaAfter below 0", []int{impl.BetaAfter(small, 1), impl.BetaAfter(small, 2), impl.BetaAfter(small, 3)}, impl.Prime-2, impl.Prime-1, impl.Prime-21)
}

// A value out of range makes the chaining value 0, from which the next hops go on.
func TestBetaAfterValuesOutOfRange(t *testing.T) {
	for _, bad := range []int{-1, impl.Prime, math.MinInt, math.MaxInt} {
		hops := []impl.Hop{{MAC: 7}, {MAC: bad}, {MAC: 20}}
		up := impl.PathPart{Kind: impl.PaUp, Beta: 500, Hops: hops}
		expectInts(t, "BetaAfter", []int{impl.BetaAfter(up, 1), impl.BetaAfter(up, 2), impl.BetaAfter(up, 3)}, 493, 0, impl.Prime-20)
		down := impl.PathPart{Kind: impl.PaDown, Beta: 500, Hops: hops}
		expectInts(t, "BetaAfter", []int{impl.BetaAfter(down, 1), impl.BetaAfter(down, 2), impl.BetaAfter(down, 3)}, 507, 0, 20)
		up.Beta, down.Beta = bad, bad
		expectInts(t, "BetaAfter", []int{impl.BetaAfter(up, 0), impl.BetaAfter(up, 1), impl.BetaAfter(down, 0), impl.BetaAfter(down, 1)}, bad, 0, bad, 0)
	}
}

// What is behind the traversed hops of a part is the part from there on.
func TestBetaAfterIsTheBetaOfTheRest(t *testing.T) {
	manyWalks(t, 28, func(r *rand.Rand, p impl.Topology, s impl.Segment) {
		down, up := impl.MakePart(s, impl.PaDown, 0), impl.MakePart(s, impl.PaUp, 0)
		for i := range s.Hops {
			expectInt(t, "BetaAfter", impl.BetaAfter(down, i), impl.MakePart(s, impl.PaDown, i).Beta)
			expectInt(t, "BetaAfter", impl.BetaAfter(up, i), impl.BetaAt(s, len(s.Hops)-i))
		}
		expectInt(t, "BetaAfter of all", impl.BetaAfter(up, len(s.Hops)), s.Beta)
		expectInt(t, "BetaAfter of all", impl.BetaAfter(down, len(s.Hops)), up.Beta)
	})
}

func TestEqualParts(t *testing.T) {
	a := impl.PathPart{Kind: 1, Timestamp: 2, Beta: 3, Hops: []impl.Hop{{AS: 1}, {AS: 2}}}
	expectBool(t, "EqualParts", impl.EqualParts(a, copyOf(a)), true)
	expectBool(t, "EqualParts of nil and empty", impl.EqualParts(impl.PathPart{}, impl.PathPart{Hops: []impl.Hop{}}), true)
	expectBool(t, "EqualParts of empty and nil", impl.EqualParts(impl.PathPart{Hops: []impl.Hop{}}, impl.PathPart{}), true)
	changes := []func(x *impl.PathPart){
		func(x *impl.PathPart) { x.Kind++ }, func(x *impl.PathPart) { x.Timestamp++ }, func(x *impl.PathPart) { x.Beta++ },
		func(x *impl.PathPart) { x.Hops = x.Hops[:1] }, func(x *impl.PathPart) { x.Hops = append(x.Hops, impl.Hop{}) }, func(x *impl.PathPart) { x.Hops = nil }, func(x *impl.PathPart) { slices.Reverse(x.Hops) },
	}
	for i := range a.Hops {
		for _, change := range hopChanges() {
			changes = append(changes, func(x *impl.PathPart) { change(&x.Hops[i], 1) })
		}
	}
	for i, change := range changes {
		b := copyOf(a)
		change(&b)
		if impl.EqualParts(a, b) || impl.EqualParts(b, a) {
			t.Errorf("change %d is not seen", i)
		}
	}
}

func TestPartsShareNoMemory(t *testing.T) {
	p := world()
	s := along(p, "0:0>3 3:1>3 4:1>0")
	for kind := 0; kind <= 5; kind++ {
		for from := -1; from <= 3; from++ {
			expectPure(t, "MakePart", impl.MakePart, s, kind, from)
			part := modelPart(s, kind, 0)
			expectPure(t, "PartIngress", impl.PartIngress, part, from)
			expectPure(t, "PartEgress", impl.PartEgress, part, from)
			expectPure(t, "BetaAfter", impl.BetaAfter, part, from)
			expectPure(t, "ValidPart", impl.ValidPart, p, part)
			expectPure(t, "VerifyPart", impl.VerifyPart, p, part)
			expectPure(t, "EqualParts", impl.EqualParts, part, part)
		}
	}
}
