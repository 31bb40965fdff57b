package tests

import (
	"math"
	"math/rand"
	"slices"
	"testing"

	"loop.example/g00505/impl"
)

// expectGrown fails if got is not before with the hop h of AS r, authenticated and with the expiry of p.
func expectGrown(t *testing.T, p impl.Topology, n impl.Policy, before impl.Segment, h impl.Hop, got impl.Segment, ok bool) {
	t.Helper()
	h.Expiry = min(before.Timestamp+n.Lifetime, impl.MaxTime)
	beta := before.Beta
	for _, x := range before.Hops {
		beta = (beta + x.MAC) % impl.Prime
	}
	key := p.ASes[h.AS].Key
	h.MAC = modelDigest([]int{key, before.Timestamp, beta, h.AS, h.Ingress, h.Egress, h.Expiry, key})
	want := before
	want.Hops = append(slices.Clone(before.Hops), h)
	if !ok || !impl.EqualSegments(got, want) {
		t.Errorf("%+v grew to %+v, %v; want %+v", before, got, ok, want)
	}
}

func expectOriginated(t *testing.T, p impl.Topology, n impl.Policy, r int, out int, ts int, beta int) {
	t.Helper()
	s, ok := impl.Originate(p, n, r, out, ts, beta)
	expectGrown(t, p, n, impl.Segment{Timestamp: ts, Beta: beta}, impl.Hop{AS: r, Egress: out}, s, ok)
}

func expectNotOriginated(t *testing.T, p impl.Topology, n impl.Policy, r int, out int, ts int, beta int) {
	t.Helper()
	if s, ok := impl.Originate(p, n, r, out, ts, beta); ok || s.Timestamp != 0 || s.Beta != 0 || len(s.Hops) != 0 {
		t.Errorf("Originate(%+v, %d, %d, %d, %d) = %+v, %v; want nothing", n, r, out, ts, beta, s, ok)
	}
}

func expectExtended(t *testing.T, p impl.Topology, n impl.Policy, s impl.Segment, r int, in int, out int) {
	t.Helper()
	got, ok := impl.Extend(p, n, s, r, in, out)
	expectGrown(t, p, n, s, impl.Hop{AS: r, Ingress: in, Egress: out}, got, ok)
}

func expectNotExtended(t *testing.T, p impl.Topology, n impl.Policy, s impl.Segment, r int, in int, out int) {
	t.Helper()
	if got, ok := impl.Extend(p, n, s, r, in, out); ok || !impl.EqualSegments(got, s) {
		t.Errorf("Extend(%+v, %+v, %d, %d, %d) = %+v, %v; want the segment, false", n, s, r, in, out, got, ok)
	}
}

func expectTerminated(t *testing.T, p impl.Topology, n impl.Policy, s impl.Segment, r int, in int) {
	t.Helper()
	got, ok := impl.Terminate(p, n, s, r, in)
	expectGrown(t, p, n, s, impl.Hop{AS: r, Ingress: in}, got, ok)
}

func expectNotTerminated(t *testing.T, p impl.Topology, n impl.Policy, s impl.Segment, r int, in int) {
	t.Helper()
	if got, ok := impl.Terminate(p, n, s, r, in); ok || !impl.EqualSegments(got, s) {
		t.Errorf("Terminate(%+v, %+v, %d, %d) = %+v, %v; want the segment, false", n, s, r, in, got, ok)
	}
}

func TestOriginateFromEachASThroughEachInterface(t *testing.T) {
	p, n := world(), impl.DefaultPolicy()
	for r := -1; r <= 9; r++ {
		for out := -1; out <= 8; out++ {
			kind := impl.InterfaceKind(p, r, out)
			if r >= 0 && r < 8 && p.ASes[r].Core && (kind == impl.ToCore || kind == impl.ToChild) {
				expectOriginated(t, p, n, r, out, 10, 500)
			} else {
				expectNotOriginated(t, p, n, r, out, 10, 500)
			}
		}
	}
	for _, x := range strange() {
		expectNotOriginated(t, p, n, x, 1, 10, 500)
		expectNotOriginated(t, p, n, 0, x, 10, 500)
	}
	expectNotOriginated(t, impl.Topology{}, n, 0, 1, 10, 500)
}

func TestOriginateAtTheEndsOfRanges(t *testing.T) {
	p, n := world(), impl.DefaultPolicy()
	for _, ts := range []int{0, 1, impl.MaxTime - 100, impl.MaxTime - 99, impl.MaxTime - 1, impl.MaxTime} {
		for _, beta := range []int{0, 1, impl.Prime - 1} {
			expectOriginated(t, p, n, 0, 3, ts, beta)
			s, _ := impl.Originate(p, n, 0, 3, ts, beta)
			expectBool(t, "ValidSegment", impl.ValidSegment(p, s), true)
		}
	}
	for _, ts := range []int{-1, impl.MaxTime + 1, math.MinInt, math.MaxInt} {
		expectNotOriginated(t, p, n, 0, 3, ts, 0)
	}
	for _, beta := range []int{-1, impl.Prime, math.MinInt, math.MaxInt} {
		expectNotOriginated(t, p, n, 0, 3, 0, beta)
	}
}

func TestOriginateFollowsThePolicy(t *testing.T) {
	p := world()
	expectOriginated(t, p, impl.Policy{MaxLength: 1, Lifetime: 1}, 0, 3, 10, 500)
	expectOriginated(t, p, impl.Policy{MaxLength: 1, Lifetime: 1000}, 0, 3, 10, 500)
	expectNotOriginated(t, p, impl.Policy{MaxLength: 0, Lifetime: 1}, 0, 3, 10, 500)
	expectNotOriginated(t, p, impl.Policy{MaxLength: 8, ClosedInterfaces: 8, Lifetime: 1}, 0, 3, 10, 500)
	expectOriginated(t, p, impl.Policy{MaxLength: 8, ClosedInterfaces: 8, Lifetime: 1}, 0, 4, 10, 500)
	// Its own hop is not yet among the hops that are denied.
	expectOriginated(t, p, impl.Policy{MaxLength: 8, DeniedASes: fullSet, Lifetime: 1}, 0, 3, 10, 500)
}

// Only core and child interfaces begin a segment, in topologies that are not valid too.
func TestOriginateInOtherTopologies(t *testing.T) {
	p, n := world(), impl.DefaultPolicy()
	p.Links = append(p.Links,
		impl.Link{A: 7, AInterface: 1, B: 0, BInterface: 5, Kind: impl.LkPeer},
		impl.Link{A: 7, AInterface: 2, B: 0, BInterface: 6, Kind: 9},
		impl.Link{A: 3, AInterface: 5, B: 7, BInterface: 4, Kind: impl.LkChild},
		impl.Link{A: 7, AInterface: 0, B: 1, BInterface: 4, Kind: impl.LkCore},
		impl.Link{A: 7, AInterface: 7, B: 1, BInterface: 5, Kind: impl.LkCore},
		impl.Link{A: 7, AInterface: 5, B: 12, BInterface: 5, Kind: impl.LkChild})
	for out := -1; out <= 8; out++ {
		if out == 3 || out == 5 {
			expectOriginated(t, p, n, 7, out, 10, 500)
		} else {
			expectNotOriginated(t, p, n, 7, out, 10, 500)
		}
	}
	expectInts(t, "OriginInterfaces", impl.OriginInterfaces(p, n, 7), 3, 5)
}

func TestCanExtend(t *testing.T) {
	p := world()
	s := along(p, "0:0>3 3:1>3")
	for r := -1; r <= 9; r++ {
		for in := -1; in <= 8; in++ {
			expectBool(t, "CanExtend", impl.CanExtend(p, s, r, in), r == 4 && in == 1)
		}
	}
	expectBool(t, "CanExtend of one hop", impl.CanExtend(p, along(p, "7:0>3"), 2, 6), true)
	expectBool(t, "CanExtend over a core link", impl.CanExtend(p, along(p, "0:0>1 1:1>2"), 2, 1), true)
	expectBool(t, "CanExtend of a terminated segment", impl.CanExtend(p, along(p, "0:0>3 3:1>0"), 4, 1), false)
	expectBool(t, "CanExtend without hops", impl.CanExtend(p, impl.Segment{}, 0, 0), false)
	expectBool(t, "CanExtend without hops", impl.CanExtend(p, impl.Segment{}, -1, 0), false)
	expectBool(t, "CanExtend in a circle", impl.CanExtend(p, along(p, "0:0>1 1:1>2 2:1>2"), 0, 2), false)
	expectBool(t, "CanExtend back over another link", impl.CanExtend(p, along(p, "0:0>1 1:1>2"), 1, 2), false)
	expectBool(t, "CanExtend of peers", impl.CanExtend(p, along(p, "0:0>3 3:1>6"), 5, 6), false)
	expectBool(t, "CanExtend of an open end without a link", impl.CanExtend(p, along(p, "0:0>3 3:1>5"), -1, 0), false)
	for i := range s.Hops {
		for name, change := range hopChanges() {
			g := cloneSegment(s)
			change(&g.Hops[i], 1)
			expectBool(t, "CanExtend with another "+name, impl.CanExtend(p, g, 4, 1), false)
		}
	}
	for _, x := range strange() {
		expectBool(t, "CanExtend by no AS", impl.CanExtend(p, s, x, 1), false)
		expectBool(t, "CanExtend through no interface", impl.CanExtend(p, s, 4, x), false)
	}
}

// The last link may lead to an AS that does not exist, or back.
func TestCanExtendInOtherTopologies(t *testing.T) {
	p := world()
	p.Links[6].B = 12
	s := along(p, "0:0>3 3:1>3")
	expectBool(t, "ValidSegment", impl.ValidSegment(p, s), true)
	expectBool(t, "CanExtend", impl.CanExtend(p, s, 12, 1), false)
	p.Links[6].B = -1
	expectBool(t, "CanExtend", impl.CanExtend(p, s, -1, 1), false)
	p.Links[6].B = 3
	expectBool(t, "CanExtend", impl.CanExtend(p, s, 3, 1), false)
	p.Links[6].BInterface = 5
	expectBool(t, "CanExtend", impl.CanExtend(p, s, 3, 5), false)
	p.Links[6].B = 0
	expectBool(t, "CanExtend", impl.CanExtend(p, s, 0, 5), false)
	p.Links[6].B = 7
	expectBool(t, "CanExtend", impl.CanExtend(p, s, 7, 5), true)
}

// Even if there is a link at interface 0, a terminated segment ends there.
func TestATerminatedSegmentEndsAtInterfaceZero(t *testing.T) {
	p, n := world(), impl.DefaultPolicy()
	p.Links = append(p.Links, impl.Link{A: 3, AInterface: 0, B: 7, BInterface: 5, Kind: impl.LkChild})
	s := along(p, "0:0>3 3:1>0")
	expectBool(t, "ValidSegment", impl.ValidSegment(p, s), true)
	expectBool(t, "CanExtend", impl.CanExtend(p, s, 7, 5), false)
	expectNotExtended(t, p, n, s, 7, 5, 3)
	expectNotTerminated(t, p, n, s, 7, 5)
}

func TestExtendThroughEachInterface(t *testing.T) {
	p, n := world(), impl.DefaultPolicy()
	p.Links = append(p.Links, impl.Link{A: 2, AInterface: 5, B: 5, BInterface: 5, Kind: 9}, impl.Link{A: 2, AInterface: 7, B: 5, BInterface: 4, Kind: impl.LkCore}, impl.Link{A: 2, AInterface: 0, B: 5, BInterface: 3, Kind: impl.LkCore})
	core, down := along(p, "7:0>3"), along(p, "0:0>3")
	for out := -1; out <= 8; out++ {
		// AS 2: 1 and 2 are core interfaces, 3 leads to a child, 4 nowhere, 5 over a link of an invalid kind, 6 back.
		if out == 1 || out == 2 {
			expectExtended(t, p, n, core, 2, 6, out)
		} else {
			expectNotExtended(t, p, n, core, 2, 6, out)
		}
		// AS 3: 1 and 2 lead to parents, 3 and 4 to a child, 5 nowhere, 6 to a peer.
		if out == 3 || out == 4 {
			expectExtended(t, p, n, down, 3, 1, out)
		} else {
			expectNotExtended(t, p, n, down, 3, 1, out)
		}
	}
	for _, x := range strange() {
		expectNotExtended(t, p, n, down, 3, 1, x)
		expectNotExtended(t, p, n, down, 3, x, 3)
		expectNotExtended(t, p, n, down, x, 1, 3)
	}
}

// A link that begins and ends at one AS: out is the interface through which the segment came.
func TestExtendThroughTheSameInterface(t *testing.T) {
	p, n := world(), impl.DefaultPolicy()
	p.Links = []impl.Link{{A: 0, AInterface: 1, B: 1, BInterface: 1, Kind: impl.LkCore}}
	s := along(p, "0:0>1")
	expectNotExtended(t, p, n, s, 1, 1, 1)
	expectInts(t, "EgressCandidates", impl.EgressCandidates(p, n, s, 1, 1))
	expectTerminated(t, p, n, s, 1, 1)
}

func TestExtendAndTerminateWhatCannotBeExtended(t *testing.T) {
	p, n := world(), impl.DefaultPolicy()
	cases := []struct {
		s          impl.Segment
		r, in, out int
	}{
		{along(p, "0:0>3 3:1>0"), 4, 1, 3},              // terminated
		{along(p, "0:0>3 3:1>3"), 4, 2, 3},              // another ingress
		{along(p, "2:0>3"), 3, 1, 3},                    // another AS
		{along(p, "0:0>1 1:1>2 2:1>2"), 0, 2, 1},        // an AS twice
		{along(p, "3:0>3"), 4, 1, 3},                    // no core AS
		{build(p, -1, 500, route("0:0>3")...), 3, 1, 3}, // no valid time
		{impl.Segment{}, 0, 0, 3},
		{impl.Segment{Timestamp: 5, Beta: 6, Hops: []impl.Hop{{AS: 0, Egress: 3}}}, 3, 1, 3}, // no MAC
	}
	for _, c := range cases {
		expectNotExtended(t, p, n, c.s, c.r, c.in, c.out)
		expectNotTerminated(t, p, n, c.s, c.r, c.in)
	}
	s := along(p, "0:0>3")
	expectExtended(t, p, n, s, 3, 1, 3)
	expectNotExtended(t, impl.Topology{}, n, s, 3, 1, 3)
	expectNotTerminated(t, impl.Topology{}, n, s, 3, 1)
}

func TestGrowthFollowsThePolicy(t *testing.T) {
	p := world()
	s := along(p, "0:0>3")
	open := impl.Policy{MaxLength: 2, Lifetime: 7}
	expectExtended(t, p, open, s, 3, 1, 3)
	expectTerminated(t, p, open, s, 3, 1)
	short := impl.Policy{MaxLength: 1, Lifetime: 7}
	expectNotExtended(t, p, short, s, 3, 1, 3)
	expectNotTerminated(t, p, short, s, 3, 1)
	denied := impl.Policy{MaxLength: 8, DeniedASes: 1, Lifetime: 7}
	expectNotExtended(t, p, denied, s, 3, 1, 3)
	expectNotTerminated(t, p, denied, s, 3, 1)
	// The AS itself is not among the hops so far.
	own := impl.Policy{MaxLength: 8, DeniedASes: fullSet - 1, Lifetime: 7}
	expectExtended(t, p, own, s, 3, 1, 3)
	expectTerminated(t, p, own, s, 3, 1)
	closed := impl.Policy{MaxLength: 8, ClosedInterfaces: 8, Lifetime: 7}
	expectNotExtended(t, p, closed, s, 3, 1, 3)
	expectExtended(t, p, closed, s, 3, 1, 4)
	expectTerminated(t, p, closed, s, 3, 1)
	// A set may contain 0, which closes the end of a segment.
	endless := impl.Policy{MaxLength: 8, ClosedInterfaces: 1, Lifetime: 7}
	expectExtended(t, p, endless, s, 3, 1, 3)
	expectNotTerminated(t, p, endless, s, 3, 1)
	// The ingress need not be open.
	inClosed := impl.Policy{MaxLength: 8, ClosedInterfaces: 2, Lifetime: 7}
	expectExtended(t, p, inClosed, s, 3, 1, 3)
	expectTerminated(t, p, inClosed, s, 3, 1)
}

func TestGrowthUpToMaxHops(t *testing.T) {
	p, hops := chainOfCores(8)
	for length := 1; length <= 9; length++ {
		n := impl.Policy{MaxLength: length, Lifetime: 100}
		s, ok := impl.Originate(p, n, 0, 2, 10, 500)
		for i := 1; i < 8; i++ {
			if !ok {
				t.Fatalf("no segment of %d hops", i)
			}
			if i >= length {
				expectNotExtended(t, p, n, s, i, 1, 2)
				expectNotTerminated(t, p, n, s, i, 1)
				break
			}
			expectTerminated(t, p, n, s, i, 1)
			if i == 7 {
				expectNotExtended(t, p, n, s, i, 1, 2)
				s, ok = impl.Terminate(p, n, s, i, 1)
				break
			}
			s, ok = impl.Extend(p, n, s, i, 1, 2)
		}
		expectInt(t, "the number of hops", len(s.Hops), min(length, 8))
		if length >= 8 {
			for i := range hops {
				hops[i].Expiry = 110
			}
			expectSegment(t, "the whole segment", s, build(p, 10, 500, hops...))
		}
	}
}

func TestGrowthExpires(t *testing.T) {
	p := world()
	s := build(p, impl.MaxTime-50, 500, route("0:0>3")...)
	for lifetime, want := range map[int]int{1: impl.MaxTime - 49, 49: impl.MaxTime - 1, 50: impl.MaxTime, 51: impl.MaxTime, 1000: impl.MaxTime} {
		n := impl.Policy{MaxLength: 8, Lifetime: lifetime}
		x, ok := impl.Extend(p, n, s, 3, 1, 3)
		y, also := impl.Terminate(p, n, s, 3, 1)
		if !ok || !also || x.Hops[1].Expiry != want || y.Hops[1].Expiry != want || !impl.ValidSegment(p, x) || !impl.ValidSegment(p, y) {
			t.Errorf("lifetime %d: %+v, %+v", lifetime, x, y)
		}
	}
}

// Whoever extends a segment received it, its policy permits it, and what arises is valid.
func TestSegmentsRemainValid(t *testing.T) {
	grown := map[bool]int{}
	manyWalks(t, 18, func(r *rand.Rand, p impl.Topology, s impl.Segment) {
		before := cloneSegment(s)
		n := randomPolicy(r)
		last := s.Hops[len(s.Hops)-1]
		far, farInterface := impl.RemoteEnd(p, last.AS, last.Egress)
		for as := range p.ASes {
			for in := range 7 {
				received := last.Egress != 0 && as == far && in == farInterface && !slices.Contains(impl.SegmentASes(s), as)
				if impl.CanExtend(p, s, as, in) != received {
					t.Fatalf("CanExtend(%+v, %d, %d) = %v", s, as, in, !received)
				}
				candidates := []int{}
				for out := range 7 {
					x, ok := impl.Extend(p, n, s, as, in, out)
					grown[ok]++
					want := received && out != 0 && out != in && impl.Allows(n, s, out) && impl.InterfaceKind(p, as, out) == impl.SegmentKind(p, s)
					if ok != want {
						t.Fatalf("Extend(%+v, %+v, %d, %d, %d) = %v", n, s, as, in, out, ok)
					}
					if ok && (!impl.ValidSegment(p, x) || impl.IsTerminated(x) || !impl.EqualSegments(impl.Splice(x, len(s.Hops), impl.Segment{}, 0), s)) {
						t.Fatalf("%+v was extended to %+v", s, x)
					}
					if next, _ := impl.RemoteEnd(p, as, out); ok && !slices.Contains(impl.SegmentASes(x), next) {
						candidates = append(candidates, out)
					}
				}
				expectInts(t, "EgressCandidates", impl.EgressCandidates(p, n, s, as, in), candidates...)
				y, ok := impl.Terminate(p, n, s, as, in)
				if ok != (received && impl.Allows(n, s, 0)) || ok && (!impl.ValidSegment(p, y) || !impl.IsTerminated(y)) {
					t.Fatalf("Terminate(%+v, %+v, %d, %d) = %+v, %v", n, s, as, in, y, ok)
				}
			}
		}
		expectSegment(t, "the argument", s, before)
	})
	if grown[true] < 50 {
		t.Errorf("too few segments were extended: %v", grown)
	}
}

func TestGrowthSharesNoMemory(t *testing.T) {
	p, n := world(), impl.DefaultPolicy()
	mark, other := impl.Hop{AS: 77}, impl.Hop{AS: 78}
	plain := along(p, "0:0>3 3:1>3")
	for _, c := range [][3]int{{4, 1, 2}, {4, 1, 1}, {0, 0, 0}, {-1, -1, -1}} {
		s := plain
		s.Hops = withSpare(plain.Hops, mark)
		x, _ := impl.Extend(p, n, s, c[0], c[1], c[2])
		y, _ := impl.Terminate(p, n, s, c[0], c[1])
		impl.EgressCandidates(p, n, s, c[0], c[1])
		expectUntouched(t, s.Hops, plain.Hops, mark)
		expectUnshared(t, x.Hops, s.Hops, other)
		expectUnshared(t, y.Hops, s.Hops, other)
	}
	s := along(p, "0:0>1")
	s.Hops = withSpare(s.Hops, mark)
	x, ok := impl.Extend(p, n, s, 1, 1, 2)
	expectBool(t, "Extend", ok, true)
	expectUnshared(t, x.Hops, s.Hops, other)
	expectUntouched(t, s.Hops, along(p, "0:0>1").Hops, mark)
}

func TestEgressCandidates(t *testing.T) {
	p, n := world(), impl.DefaultPolicy()
	// Two links lead to AS 4: both are candidates.
	expectInts(t, "EgressCandidates of 3", impl.EgressCandidates(p, n, along(p, "0:0>3"), 3, 1), 3, 4)
	expectInts(t, "EgressCandidates of 2", impl.EgressCandidates(p, n, along(p, "7:0>3"), 2, 6), 1, 2)
	// Interface 2 of AS 2 leads back to AS 0.
	expectInts(t, "EgressCandidates of 2", impl.EgressCandidates(p, n, along(p, "0:0>1 1:1>2"), 2, 1), 6)
	expectExtended(t, p, n, along(p, "0:0>1 1:1>2"), 2, 1, 2)
	expectInts(t, "EgressCandidates of 4", impl.EgressCandidates(p, n, along(p, "0:0>3 3:1>3"), 4, 1))
	expectInts(t, "EgressCandidates of another", impl.EgressCandidates(p, n, along(p, "0:0>3"), 3, 2))
	expectInts(t, "EgressCandidates of a terminated segment", impl.EgressCandidates(p, n, along(p, "0:0>3 3:1>0"), 4, 1))
	expectInts(t, "EgressCandidates without hops", impl.EgressCandidates(p, n, impl.Segment{}, 0, 0))
	n.ClosedInterfaces = 8
	expectInts(t, "EgressCandidates with one closed", impl.EgressCandidates(p, n, along(p, "0:0>3"), 3, 1), 4)
	n = impl.Policy{MaxLength: 1, Lifetime: 5}
	expectInts(t, "EgressCandidates of a full segment", impl.EgressCandidates(p, n, along(p, "0:0>3"), 3, 1))
	for _, x := range strange() {
		expectInts(t, "EgressCandidates of no AS", impl.EgressCandidates(p, impl.DefaultPolicy(), along(p, "0:0>3"), x, 1))
	}
}

// A link from an AS to itself is no candidate, though Extend takes it.
func TestEgressCandidatesDoNotLeadBack(t *testing.T) {
	p, n := world(), impl.DefaultPolicy()
	p.Links = append(p.Links, impl.Link{A: 3, AInterface: 5, B: 3, BInterface: 5, Kind: impl.LkChild}, impl.Link{A: 3, AInterface: 6, B: 0, BInterface: 6, Kind: impl.LkChild}, impl.Link{A: 5, AInterface: 3, B: 12, BInterface: 1, Kind: impl.LkChild})
	expectExtended(t, p, n, along(p, "0:0>3"), 3, 1, 5)
	expectInts(t, "EgressCandidates of 3", impl.EgressCandidates(p, n, along(p, "0:0>3"), 3, 1), 3, 4)
	expectInts(t, "EgressCandidates of 5", impl.EgressCandidates(p, n, along(p, "2:0>3"), 5, 1), 2, 3)
}

func TestOriginInterfaces(t *testing.T) {
	p, n := world(), impl.DefaultPolicy()
	want := [][]int{{1, 2, 3, 4}, {1, 2, 3}, {1, 2, 3, 6}, {}, {}, {}, {}, {3}}
	for r := range p.ASes {
		expectInts(t, "OriginInterfaces", impl.OriginInterfaces(p, n, r), want[r]...)
	}
	for _, r := range append(strange(), 8) {
		expectInts(t, "OriginInterfaces of no AS", impl.OriginInterfaces(p, n, r))
	}
	n.ClosedInterfaces = 2 + 8
	expectInts(t, "OriginInterfaces with two closed", impl.OriginInterfaces(p, n, 0), 2, 4)
	expectInts(t, "OriginInterfaces of a policy without hops", impl.OriginInterfaces(p, impl.Policy{Lifetime: 5}, 0))
}
