package tests

import (
	"math"
	"math/rand"
	"slices"
	"testing"

	"loop.example/g00505/impl"
)

// modelReversedPart reverses by the words of the document; values out of range count as 0.
func modelReversedPart(p impl.PathPart) impl.PathPart {
	q := impl.PathPart{Kind: p.Kind, Timestamp: p.Timestamp, Beta: p.Beta}
	if i := slices.Index([]int{impl.PaUp, impl.PaDown, impl.PaCore, impl.PaReversedCore}, p.Kind); i >= 0 {
		q.Kind = []int{impl.PaDown, impl.PaUp, impl.PaReversedCore, impl.PaCore}[i]
	}
	for _, h := range p.Hops {
		q.Hops = append([]impl.Hop{h}, q.Hops...)
		switch {
		case q.Beta < 0 || q.Beta >= impl.Prime || h.MAC < 0 || h.MAC >= impl.Prime:
			q.Beta = 0
		case modelReversed(p.Kind):
			q.Beta = (q.Beta - h.MAC + impl.Prime) % impl.Prime
		default:
			q.Beta = (q.Beta + h.MAC) % impl.Prime
		}
	}
	return q
}

// modelReversedPath reverses by the words of the document.
func modelReversedPath(p impl.Path) impl.Path {
	q := impl.Path{}
	for _, part := range p.Parts {
		q.Parts = append([]impl.PathPart{modelReversedPart(part)}, q.Parts...)
	}
	return q
}

func TestReverseKind(t *testing.T) {
	want := map[int]int{-1: -1, 0: 0, 1: 4, 2: 3, 3: 2, 4: 1, 5: 5, 6: 6}
	for kind := -1; kind <= 6; kind++ {
		expectInt(t, "ReverseKind of "+impl.FormatInt(kind), impl.ReverseKind(kind), want[kind])
	}
	for _, kind := range strange() {
		expectInt(t, "ReverseKind of no kind", impl.ReverseKind(kind), kind)
	}
}

func TestReversePart(t *testing.T) {
	hops := []impl.Hop{{AS: 1, Ingress: 2, Egress: 3, Expiry: 4, MAC: 7}, {AS: 5, Ingress: 6, Egress: 7, Expiry: 8, MAC: impl.Prime - 1}, {AS: 9, Ingress: 10, Egress: 11, Expiry: 12, MAC: 20}}
	back := []impl.Hop{hops[2], hops[1], hops[0]}
	cases := []struct{ kind, wantKind, wantBeta int }{
		{impl.PaUp, impl.PaDown, 474}, {impl.PaReversedCore, impl.PaCore, 474}, {impl.PaDown, impl.PaUp, 526}, {impl.PaCore, impl.PaReversedCore, 526},
		{0, 0, 526}, {5, 5, 526}, {-1, -1, 526}, {math.MaxInt, math.MaxInt, 526}, {math.MinInt, math.MinInt, 526},
	}
	for _, c := range cases {
		p := impl.PathPart{Kind: c.kind, Timestamp: 33, Beta: 500, Hops: hops}
		expectSame(t, "ReversePart", impl.ReversePart(p), impl.PathPart{Kind: c.wantKind, Timestamp: 33, Beta: c.wantBeta, Hops: back})
		expectSame(t, "the model", modelReversedPart(p), impl.PathPart{Kind: c.wantKind, Timestamp: 33, Beta: c.wantBeta, Hops: back})
		if impl.PaUp <= c.kind && c.kind <= impl.PaDown {
			expectSame(t, "ReversePart twice", impl.ReversePart(impl.ReversePart(p)), p)
		}
		p.Hops = nil
		expectSame(t, "ReversePart without hops", impl.ReversePart(p), impl.PathPart{Kind: c.wantKind, Timestamp: 33, Beta: 500})
		p.Timestamp, p.Beta = -5, math.MinInt
		expectSame(t, "ReversePart without hops", impl.ReversePart(p), impl.PathPart{Kind: c.wantKind, Timestamp: -5, Beta: math.MinInt})
	}
	one := impl.PathPart{Kind: impl.PaUp, Beta: 5, Hops: hops[:1]}
	expectSame(t, "ReversePart of one hop", impl.ReversePart(one), impl.PathPart{Kind: impl.PaDown, Beta: impl.Prime - 2, Hops: hops[:1]})
	expectSame(t, "ReversePart of the zero part", impl.ReversePart(impl.PathPart{}), impl.PathPart{})
}

func TestReversePartWithValuesOutOfRange(t *testing.T) {
	for _, bad := range []int{-1, impl.Prime, math.MinInt, math.MaxInt} {
		hops := []impl.Hop{{MAC: 7}, {MAC: bad}, {MAC: 20}}
		back := []impl.Hop{{MAC: 20}, {MAC: bad}, {MAC: 7}}
		expectSame(t, "ReversePart with such a MAC", impl.ReversePart(impl.PathPart{Kind: impl.PaUp, Beta: 500, Hops: hops}), impl.PathPart{Kind: impl.PaDown, Beta: impl.Prime - 20, Hops: back})
		expectSame(t, "ReversePart with such a MAC", impl.ReversePart(impl.PathPart{Kind: impl.PaDown, Beta: 500, Hops: hops}), impl.PathPart{Kind: impl.PaUp, Beta: 20, Hops: back})
		expectSame(t, "ReversePart with such a beta", impl.ReversePart(impl.PathPart{Kind: impl.PaCore, Beta: bad, Hops: hops[:1]}), impl.PathPart{Kind: impl.PaReversedCore, Hops: hops[:1]})
		expectSame(t, "ReversePart with such a beta", impl.ReversePart(impl.PathPart{Kind: impl.PaReversedCore, Beta: bad, Hops: hops[:1]}), impl.PathPart{Kind: impl.PaCore, Hops: hops[:1]})
	}
}

// What is reversed of a segment in the one direction is the segment in the other direction.
func TestReversedPartsOfSegments(t *testing.T) {
	p := world()
	s := along(p, "0:0>3 3:1>3 4:1>0")
	for from := range s.Hops {
		for _, kinds := range [][2]int{{impl.PaUp, impl.PaDown}, {impl.PaDown, impl.PaUp}, {impl.PaCore, impl.PaReversedCore}, {impl.PaReversedCore, impl.PaCore}} {
			expectSame(t, "ReversePart", impl.ReversePart(modelPart(s, kinds[0], from)), modelPart(s, kinds[1], from))
		}
	}
	manyWalks(t, 52, func(r *rand.Rand, p impl.Topology, s impl.Segment) {
		part := impl.MakePart(s, 1+r.Intn(4), r.Intn(len(s.Hops)))
		back := impl.ReversePart(part)
		expectSame(t, "ReversePart", back, modelReversedPart(part))
		expectBool(t, "ValidPart", impl.ValidPart(p, back) && impl.VerifyPart(p, back), true)
		expectSame(t, "ReversePart twice", impl.ReversePart(back), part)
	})
}

func TestReversePath(t *testing.T) {
	p := world()
	want := []string{"down 0:0>3 3:1>3 4:1>0", "back 0:0>2 2:2>0", "up 2:0>3 5:1>2 6:1>0"}
	back := impl.Path{}
	for _, text := range []string{want[2], want[1], want[0]} {
		back.Parts = append(back.Parts, partAlong(p, text))
	}
	expectSame(t, "ReversePath", impl.ReversePath(longPath()), back)
	expectSame(t, "ReversePath without parts", impl.ReversePath(impl.Path{}), impl.Path{})
	expectSame(t, "ReversePath of one part", impl.ReversePath(pathAlong(p, "up1 0:0>3 3:1>3 4:1>0")), pathAlong(p, "down1 0:0>3 3:1>3 4:1>0"))
	hollow := pathOfParts(impl.PathPart{Kind: 1, Timestamp: 2, Beta: 3}, impl.PathPart{Kind: 7, Timestamp: -4}, impl.PathPart{Kind: 2, Beta: -5})
	expectSame(t, "ReversePath of parts without hops", impl.ReversePath(hollow), pathOfParts(impl.PathPart{Kind: 3, Beta: -5}, impl.PathPart{Kind: 7, Timestamp: -4}, impl.PathPart{Kind: 4, Timestamp: 2, Beta: 3}))
	expectSame(t, "ReversePath of parts without hops twice", impl.ReversePath(impl.ReversePath(hollow)), hollow)
	for _, path := range append(worldPaths(), encodablePaths()...) {
		expectSame(t, "ReversePath", impl.ReversePath(path), modelReversedPath(path))
		expectSame(t, "ReversePath twice", impl.ReversePath(impl.ReversePath(path)), path)
	}
}

func TestReply(t *testing.T) {
	for kind := -1; kind <= 4; kind++ {
		pk := longPacket()
		pk.Kind = 3 - kind
		back := impl.ReversePath(longPath())
		want := impl.Packet{Kind: kind, Src: 6, Dst: 4, Path: back, Beta: back.Parts[0].Beta, ReservationID: 5, Seq: 9, Payload: []byte("ok")}
		expectSame(t, "Reply", impl.Reply(pk, kind, 9, []byte("ok")), want)
		// Where the packet is on its path, and what else it carries, plays no part.
		pk.PartIndex, pk.HopIndex, pk.Beta, pk.Src, pk.Dst, pk.Seq, pk.Payload = 7, -1, -2, 1, 1, 77, nil
		expectSame(t, "Reply from elsewhere", impl.Reply(pk, kind, 9, []byte("ok")), want)
	}
	expectSame(t, "Reply without parts", impl.Reply(impl.Packet{Kind: 1, Src: 3, Dst: 4, ReservationID: -6, Payload: []byte{1}}, 2, math.MinInt, nil), impl.Packet{Kind: 2, Src: -1, Dst: -1, ReservationID: -6, Seq: math.MinInt})
	hollow := pathOfParts(impl.PathPart{Kind: 1, Beta: 8}, impl.PathPart{Kind: 4, Beta: 9})
	expectSame(t, "Reply without hops", impl.Reply(impl.Packet{Path: hollow}, 2, 3, nil), impl.Packet{Kind: 2, Src: -1, Dst: -1, Path: pathOfParts(impl.PathPart{Kind: 1, Beta: 9}, impl.PathPart{Kind: 4, Beta: 8}), Beta: 9, Seq: 3})
}

// A reply finds its way back.
func TestRepliesComeBack(t *testing.T) {
	p := world()
	for _, path := range worldPaths() {
		pk := impl.Traverse(p, 50, nil, impl.NewPacket(impl.PkData, path, 3, 0, nil)).Packet
		w := impl.Traverse(p, 50, nil, impl.Reply(pk, impl.PkAck, 0, nil))
		expectInt(t, "the code", w.Code, impl.FwDeliver)
		expectSame(t, "the steps", w.Steps, impl.ReverseSteps(impl.PathSteps(path)))
	}
}

func TestReverseSteps(t *testing.T) {
	expectSame(t, "ReverseSteps of none", impl.ReverseSteps(nil), nil)
	expectSame(t, "ReverseSteps of one", impl.ReverseSteps([]impl.Step{{AS: 1, Ingress: 2, Egress: 3}}), []impl.Step{{AS: 1, Ingress: 3, Egress: 2}})
	expectSame(t, "ReverseSteps of two", impl.ReverseSteps([]impl.Step{{AS: 1, Ingress: 2, Egress: 3}, {AS: -4, Ingress: math.MinInt, Egress: 6}}), []impl.Step{{AS: -4, Ingress: 6, Egress: math.MinInt}, {AS: 1, Ingress: 3, Egress: 2}})
	expectSame(t, "ReverseSteps of several", impl.ReverseSteps(stepsAlong("0>4>1 3>3>1 3>0>2 2>2>3 1>5>2 1>6>0")), stepsAlong("0>6>1 2>5>1 3>2>2 2>0>3 1>3>3 1>4>0"))
	for _, path := range worldPaths() {
		steps := impl.PathSteps(path)
		expectSame(t, "ReverseSteps", impl.ReverseSteps(steps), impl.PathSteps(impl.ReversePath(path)))
		expectSame(t, "ReverseSteps twice", impl.ReverseSteps(impl.ReverseSteps(steps)), steps)
	}
}

func TestBidirectional(t *testing.T) {
	p := world()
	for _, path := range worldPaths() {
		for now, want := range map[int]bool{9: false, 10: true, 50: true, 100: true, 101: false, -1: false, math.MinInt: false, math.MaxInt: false} {
			expectBool(t, "Bidirectional at "+impl.FormatInt(now), impl.Bidirectional(p, path, now), want)
		}
		forged := copyOf(path)
		forged.Parts[0].Hops[0].MAC ^= 1
		expectBool(t, "Bidirectional with another MAC", impl.Bidirectional(p, forged, 50), false)
		expectBool(t, "Bidirectional without ASes", impl.Bidirectional(impl.Topology{}, path, 50), false)
	}
	expectBool(t, "Bidirectional without parts", impl.Bidirectional(p, impl.Path{}, 50), false)
	expectBool(t, "Bidirectional twice over an interface", impl.Bidirectional(p, pathAlong(p, "up 0:0>3 3:1>3 4:1>0", "down 0:0>3 3:1>4 4:2>0"), 50), false)
}

// In a topology that is not valid, the other end of the other end of an interface may be another interface.
func TestBidirectionalInOneDirectionOnly(t *testing.T) {
	p := world()
	down := pathAlong(p, "down 0:0>3 3:1>3 4:1>0")
	for _, wrong := range []impl.Link{{A: 1, AInterface: 5, B: 3, BInterface: 1, Kind: impl.LkChild}, {A: 4, AInterface: 1, B: 6, BInterface: 5, Kind: impl.LkChild}} {
		q := p
		q.Links = append([]impl.Link{wrong}, p.Links...)
		expectBool(t, "PathUsable", impl.PathUsable(q, down, 50), true)
		expectBool(t, "PathUsable of the reversal", impl.PathUsable(q, impl.ReversePath(down), 50), false)
		expectBool(t, "Bidirectional", impl.Bidirectional(q, down, 50), false)
		expectBool(t, "Bidirectional", impl.Bidirectional(q, impl.ReversePath(down), 50), false)
	}
	expectBool(t, "Bidirectional", impl.Bidirectional(p, down, 50), true)
}

func TestOppositeEndpoints(t *testing.T) {
	from := func(a int, b int) impl.Path { return pathOfParts(onePart(impl.PaUp, a, 9, b)) }
	none, hollow := impl.Path{}, pathOfParts(impl.PathPart{})
	expectBool(t, "OppositeEndpoints without steps", impl.OppositeEndpoints(none, none) && impl.OppositeEndpoints(none, hollow) && impl.OppositeEndpoints(hollow, hollow), true)
	expectBool(t, "OppositeEndpoints of a path and none", impl.OppositeEndpoints(longPath(), none) || impl.OppositeEndpoints(none, longPath()), false)
	// Without steps, the ends are -1.
	expectBool(t, "OppositeEndpoints of no ASes", impl.OppositeEndpoints(from(-1, -1), none), true)
	for a := range 3 {
		for b := range 3 {
			expectBool(t, "OppositeEndpoints of a path and itself", impl.OppositeEndpoints(from(a, b), from(a, b)), a == b)
			for c := range 3 {
				for d := range 3 {
					expectBool(t, "OppositeEndpoints", impl.OppositeEndpoints(from(a, b), from(c, d)), a == d && b == c)
				}
			}
		}
	}
	for _, path := range worldPaths() {
		expectBool(t, "OppositeEndpoints of the reversal", impl.OppositeEndpoints(path, impl.ReversePath(path)), true)
		expectBool(t, "OppositeEndpoints of the path itself", impl.OppositeEndpoints(path, path), len(modelSteps(path)) == 1)
	}
}

// If a path is usable, so is its reversal.
func TestReversalsOfUsablePathsAreUsable(t *testing.T) {
	usable := 0
	manyPaths(t, 53, func(r *rand.Rand, p impl.Topology, path impl.Path) {
		now := 5 + r.Intn(110)
		back := impl.ReversePath(path)
		expectSame(t, "ReversePath", back, modelReversedPath(path))
		expectBool(t, "PathUsable", impl.PathUsable(p, back, now), impl.PathUsable(p, path, now))
		expectBool(t, "Bidirectional", impl.Bidirectional(p, path, now), impl.PathUsable(p, path, now))
		expectSame(t, "PathSteps", impl.PathSteps(back), impl.ReverseSteps(impl.PathSteps(path)))
		expectBool(t, "OppositeEndpoints", impl.OppositeEndpoints(path, back), true)
		if impl.PathUsable(p, path, now) {
			usable++
			expectBool(t, "Reaches", impl.Reaches(p, now, nil, back), impl.PathAllowed(p, back))
		}
	})
	if usable < 500 {
		t.Errorf("too few usable paths: %d", usable)
	}
}

func TestReversalSharesNoMemory(t *testing.T) {
	p := world()
	none := impl.PathPart{}
	for _, path := range append(worldPaths(), impl.Path{}, pathOfParts(none, none), pathOfParts(onePart(7, -1, 2))) {
		expectPure(t, "ReversePath", impl.ReversePath, path)
		expectPure(t, "Bidirectional", impl.Bidirectional, p, path, 50)
		expectPure(t, "OppositeEndpoints", impl.OppositeEndpoints, path, longPath())
		expectPure(t, "Reply", impl.Reply, impl.Packet{Path: path, Payload: []byte{1, 2}}, 2, 3, []byte{4, 5})
		expectPure(t, "ReverseSteps", impl.ReverseSteps, impl.PathSteps(path))
		for _, part := range path.Parts {
			expectPure(t, "ReversePart", impl.ReversePart, part)
		}
	}
}
