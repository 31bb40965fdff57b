package tests

import (
	"math"
	"math/rand"
	"slices"
	"testing"

	"loop.example/g00505/impl"
)

func TestSegmentKindConstants(t *testing.T) {
	expectInts(t, "kinds of segments", []int{impl.SgNone, impl.SgCore, impl.SgDown}, 0, 1, 2)
}

func TestSegmentsThatAreBuiltCorrectly(t *testing.T) {
	kinds := map[int]int{}
	manyWalks(t, 11, func(r *rand.Rand, p impl.Topology, s impl.Segment) {
		kind := impl.SgDown
		if impl.InterfaceKind(p, s.Hops[0].AS, s.Hops[0].Egress) == impl.ToCore {
			kind = impl.SgCore
		}
		kinds[kind]++
		if !impl.WellFormed(p, s) || impl.FirstInvalidHop(p, s) != -1 || impl.SegmentKind(p, s) != kind || !impl.ValidSegment(p, s) {
			t.Fatalf("%+v is not valid in %+v", s, p)
		}
		for i, h := range s.Hops {
			if !impl.VerifyHop(p, s.Timestamp, impl.BetaAt(s, i), h) {
				t.Fatalf("hop %d of %+v does not verify", i, s)
			}
		}
	})
	if kinds[impl.SgCore] < 100 || kinds[impl.SgDown] < 100 {
		t.Errorf("too few segments of a kind: %v", kinds)
	}
}

func TestSegmentsWithOneFieldChanged(t *testing.T) {
	manyWalks(t, 12, func(r *rand.Rand, p impl.Topology, s impl.Segment) {
		i := r.Intn(len(s.Hops))
		for name, change := range hopChanges() {
			for _, by := range []int{-1, 1, 1 + r.Intn(1000)} {
				g := cloneSegment(s)
				change(&g.Hops[i], by)
				if n := impl.FirstInvalidHop(p, g); n != i {
					t.Fatalf("%s of hop %d of %+v changed by %d: FirstInvalidHop = %d", name, i, s, by, n)
				}
				if impl.ValidSegment(p, g) {
					t.Fatalf("%s of hop %d of %+v changed by %d: valid", name, i, s, by)
				}
			}
		}
		for _, by := range []int{-1, 1} {
			g, h := s, s
			g.Timestamp += by
			h.Beta += by
			if impl.FirstInvalidHop(p, g) != 0 || impl.FirstInvalidHop(p, h) != 0 {
				t.Fatalf("%+v verifies with another timestamp or beta", s)
			}
		}
	})
}

// A hop that is authenticated anew with other fields verifies; the next one is the first that does not.
func TestAForgedHopBreaksTheNextOne(t *testing.T) {
	p := world()
	s := along(p, "0:0>3 3:1>3 4:1>0")
	for i := range s.Hops {
		g := cloneSegment(s)
		g.Hops[i].Expiry++
		g.Hops[i] = impl.AuthenticateHop(p.ASes[g.Hops[i].AS].Key, g.Timestamp, impl.BetaAt(g, i), g.Hops[i])
		want := i + 1
		if i == 2 {
			want = -1
		}
		expectInt(t, "FirstInvalidHop", impl.FirstInvalidHop(p, g), want)
	}
}

func TestFirstInvalidHop(t *testing.T) {
	p := world()
	for _, s := range []impl.Segment{{}, {Timestamp: -1, Beta: -1, Hops: []impl.Hop{}}} {
		expectInt(t, "FirstInvalidHop without hops", impl.FirstInvalidHop(p, s), -1)
	}
	// What is not well-formed may verify all the same.
	for _, text := range []string{"3:4>1 5:2>0 3:4>1", "7:3>0", "0:1>2 0:2>1 0:1>3"} {
		expectInt(t, "FirstInvalidHop of "+text, impl.FirstInvalidHop(p, along(p, text)), -1)
	}
	for _, c := range []struct {
		text string
		want int
	}{{"0:0>1 9:1>2 1:1>0", 1}, {"0:0>1 1:1>1", 1}, {"8:0>1 1:1>0", 0}, {"0:0>1 1:1>2 2:1>7", 2}} {
		expectInt(t, "FirstInvalidHop of "+c.text, impl.FirstInvalidHop(p, along(p, c.text)), c.want)
	}
	expectInt(t, "FirstInvalidHop without ASes", impl.FirstInvalidHop(impl.Topology{}, along(p, "0:0>1")), 0)
	s := along(p, "0:0>1 1:1>2 2:1>0")
	s.Hops[1].MAC, s.Hops[2].MAC = 1, 2
	expectInt(t, "FirstInvalidHop of two", impl.FirstInvalidHop(p, s), 1)
}

// Values beyond the prime make the chain 0, as AddMod does.
func TestFirstInvalidHopWithABetaOutOfRange(t *testing.T) {
	p := world()
	for _, beta := range []int{-1, impl.Prime, math.MinInt, math.MaxInt} {
		s := impl.Segment{Timestamp: 10, Beta: beta}
		for i, h := range route("0:0>1 1:1>2 2:1>0") {
			s.Hops = append(s.Hops, impl.AuthenticateHop(p.ASes[h.AS].Key, 10, impl.BetaAt(s, i), h))
		}
		expectInt(t, "FirstInvalidHop", impl.FirstInvalidHop(p, s), -1)
		expectBool(t, "ValidSegment", impl.ValidSegment(p, s), false)
	}
}

func TestSegmentKindsOfTheWorld(t *testing.T) {
	p := world()
	core, down := worldRoutes()
	for _, text := range core {
		expectInt(t, "SegmentKind of "+text, impl.SegmentKind(p, along(p, text)), impl.SgCore)
		expectBool(t, "ValidSegment of "+text, impl.ValidSegment(p, along(p, text)), true)
	}
	for _, text := range down {
		expectInt(t, "SegmentKind of "+text, impl.SegmentKind(p, along(p, text)), impl.SgDown)
		expectBool(t, "ValidSegment of "+text, impl.ValidSegment(p, along(p, text)), true)
	}
	none := []string{
		"", "0:0>0", "7:0>1", "0:0>5", "0:0>7", // nothing, the end at once, no link
		"0:0>1 1:1>3", "0:0>1 1:1>3 3:2>0", "1:0>3 3:2>1 0:3>1", // both kinds of links
		"3:0>3 4:1>0", "5:0>2", "3:0>1 0:3>0", "4:0>4", // a beginning at a child
		"0:0>3 3:1>6 5:6>0", "3:0>6 5:6>0", "4:0>3", // peers
		"0:0>3 3:1>2 1:3>0", "0:0>3 3:1>5", "0:0>1 1:1>6", // back to a parent, an open end without a link
		"0:0>1 2:1>0", "0:1>2", // not well-formed
	}
	for _, text := range none {
		expectInt(t, "SegmentKind of "+text, impl.SegmentKind(p, along(p, text)), impl.SgNone)
		expectBool(t, "ValidSegment of "+text, impl.ValidSegment(p, along(p, text)), false)
	}
}

// SegmentKind looks at neither MACs nor times, as far as the hops are valid.
func TestSegmentKindWithoutMACs(t *testing.T) {
	p := world()
	s := along(p, "0:0>3 3:1>0")
	s.Timestamp, s.Beta, s.Hops[0].MAC = -5, -5, 0
	expectInt(t, "SegmentKind", impl.SegmentKind(p, s), impl.SgDown)
	expectBool(t, "ValidSegment", impl.ValidSegment(p, s), false)
	s.Hops[0].MAC = -1
	expectInt(t, "SegmentKind", impl.SegmentKind(p, s), impl.SgNone)
}

// Links of an invalid kind count only behind the first link of a valid one.
func TestSegmentKindOverLinksOfAnInvalidKind(t *testing.T) {
	kinds := []struct {
		links []int
		want  int
	}{
		{[]int{9}, impl.SgNone}, {[]int{9, 9}, impl.SgNone}, {[]int{9, impl.LkCore}, impl.SgCore}, {[]int{9, impl.LkChild}, impl.SgDown}, {[]int{9, impl.LkPeer}, impl.SgNone},
		{[]int{impl.LkCore, 9}, impl.SgNone}, {[]int{impl.LkChild, 9}, impl.SgNone}, {[]int{9, 0, impl.LkCore, impl.LkCore}, impl.SgCore},
		{[]int{9, impl.LkCore, 9, impl.LkCore}, impl.SgNone}, {[]int{9, impl.LkCore, impl.LkChild}, impl.SgNone}, {[]int{-1, impl.LkChild, impl.LkChild}, impl.SgDown},
		{[]int{9, impl.LkChild, impl.LkCore}, impl.SgNone}, {[]int{impl.LkCore, impl.LkCore, impl.LkPeer}, impl.SgNone},
	}
	for _, c := range kinds {
		p, hops := chainOfCores(len(c.links) + 1)
		for i, kind := range c.links {
			p.Links[i].Kind = kind
		}
		s := build(p, 10, 500, hops...)
		expectInt(t, "SegmentKind", impl.SegmentKind(p, s), c.want)
		expectBool(t, "ValidSegment", impl.ValidSegment(p, s), c.want != impl.SgNone)
		p.ASes[0].Core = false
		expectInt(t, "SegmentKind from no core AS", impl.SegmentKind(p, s), impl.SgNone)
	}
}

func TestValidSegmentRanges(t *testing.T) {
	p := world()
	hops := route("0:0>3 3:1>0")
	for _, c := range []struct {
		ts, beta int
		want     bool
	}{
		{0, 0, true}, {impl.MaxTime, 0, true}, {0, impl.Prime - 1, true}, {impl.MaxTime, impl.Prime - 1, true},
		{-1, 0, false}, {impl.MaxTime + 1, 0, false}, {0, -1, false}, {0, impl.Prime, false},
		{math.MinInt, 0, false}, {math.MaxInt, 0, false}, {0, math.MinInt, false}, {0, math.MaxInt, false},
	} {
		s := build(p, c.ts, c.beta, hops[0])
		s.Hops = append(s.Hops, impl.AuthenticateHop(104, c.ts, impl.BetaAt(s, 1), hops[1]))
		if c.beta >= 0 && c.beta < impl.Prime && impl.FirstInvalidHop(p, s) != -1 {
			t.Errorf("the segment with %d and %d does not verify", c.ts, c.beta)
		}
		if ok := impl.ValidSegment(p, s); ok != c.want {
			t.Errorf("ValidSegment with %d and %d = %v", c.ts, c.beta, ok)
		}
	}
}

// In a topology that is not valid, too.
func TestValidSegmentInOtherTopologies(t *testing.T) {
	p := world()
	s := along(p, "0:0>3 3:1>0")
	p.ASes[5].Key = 101
	expectBool(t, "ValidSegment", impl.ValidSegment(p, s), true)
	p.ASes[3].Core = true
	expectBool(t, "ValidSegment", impl.ValidSegment(p, s), true)
	p.ASes[0].Core = false
	expectBool(t, "ValidSegment", impl.ValidSegment(p, s), false)
	expectBool(t, "ValidSegment without a topology", impl.ValidSegment(impl.Topology{}, s), false)
}

func TestSegmentUsable(t *testing.T) {
	p := world()
	hops := route("0:0>3 3:1>3 4:1>0")
	hops[0].Expiry, hops[1].Expiry, hops[2].Expiry = 90, 80, 85
	s := build(p, 10, 500, hops...)
	for now, want := range map[int]bool{9: false, 10: true, 11: true, 79: true, 80: true, 81: false, 85: false, 0: false, -1: false, math.MinInt: false, math.MaxInt: false} {
		if ok := impl.SegmentUsable(p, s, now); ok != want {
			t.Errorf("SegmentUsable at %d = %v", now, ok)
		}
	}
	// Each of the other conditions broken alone.
	expectBool(t, "SegmentUsable of an open segment", impl.SegmentUsable(p, build(p, 10, 500, hops[:2]...), 50), false)
	g := cloneSegment(s)
	g.Hops[2].MAC++
	expectBool(t, "SegmentUsable of an invalid segment", impl.SegmentUsable(p, g, 50), false)
	expectBool(t, "SegmentUsable without hops", impl.SegmentUsable(p, impl.Segment{}, 0), false)
	hops[1].Expiry = 5
	s = build(p, 10, 500, hops...)
	for now := range 20 {
		expectBool(t, "SegmentUsable that expires before it begins", impl.SegmentUsable(p, s, now), false)
	}
	hops[1].Expiry = 10
	s = build(p, 10, 500, hops...)
	for now := range 20 {
		expectBool(t, "SegmentUsable for one tick", impl.SegmentUsable(p, s, now), now == 10)
	}
}

func TestSplice(t *testing.T) {
	p := world()
	a, b := along(p, "0:0>1 1:1>2 2:1>0"), build(p, 20, 7, route("0:0>3 3:1>0")...)
	for i := range 4 {
		for j := range 3 {
			want := impl.Segment{Timestamp: 10, Beta: 500, Hops: slices.Concat(a.Hops[:i], b.Hops[j:])}
			expectSegment(t, "Splice", impl.Splice(a, i, b, j), want)
			want.Timestamp, want.Beta = 20, 7
			want.Hops = slices.Concat(b.Hops[:j], a.Hops[i:])
			expectSegment(t, "Splice", impl.Splice(b, j, a, i), want)
		}
	}
	for _, i := range append(strange(), 4) {
		expectSegment(t, "Splice at no index", impl.Splice(a, i, b, 0), impl.Segment{})
		expectSegment(t, "Splice at no index", impl.Splice(b, 0, a, i), impl.Segment{})
	}
	expectSegment(t, "Splice at 3 of 2", impl.Splice(b, 3, a, 0), impl.Segment{})
	expectSegment(t, "Splice at 3 of 2", impl.Splice(a, 0, b, 3), impl.Segment{})
	expectSegment(t, "Splice of no hops", impl.Splice(impl.Segment{Timestamp: -4, Beta: 3}, 0, impl.Segment{}, 0), impl.Segment{Timestamp: -4, Beta: 3})
	expectSegment(t, "Splice of no hops", impl.Splice(impl.Segment{Timestamp: -4, Beta: 3}, 1, impl.Segment{}, 0), impl.Segment{})
	expectInt(t, "the length of a long segment", len(impl.Splice(a, 3, impl.Splice(a, 3, a, 0), 0).Hops), 9)
}

func TestStripMACs(t *testing.T) {
	p := world()
	hops := impl.StripMACs(along(p, "0:0>1 1:1>2 2:1>0"))
	if want := route("0:0>1 1:1>2 2:1>0"); !slices.Equal(hops, want) {
		t.Errorf("StripMACs = %v; want %v", hops, want)
	}
	expectInt(t, "the number of hops", len(impl.StripMACs(impl.Segment{Timestamp: 1})), 0)
	wild := impl.Hop{AS: -1, Ingress: 99, Egress: 98, Expiry: -7, MAC: -5}
	if got, want := impl.StripMACs(impl.Segment{Hops: []impl.Hop{wild}}), (impl.Hop{AS: -1, Ingress: 99, Egress: 98, Expiry: -7}); len(got) != 1 || got[0] != want {
		t.Errorf("StripMACs = %v", got)
	}
}

func TestAuthenticatedBy(t *testing.T) {
	p := world()
	s := along(p, "0:0>3 3:1>3 4:1>0")
	for r := -1; r <= 9; r++ {
		expectBool(t, "AuthenticatedBy", impl.AuthenticatedBy(p, s, r), r == 0 || r == 3 || r == 4)
		expectBool(t, "AuthenticatedBy without hops", impl.AuthenticatedBy(p, impl.Segment{}, r), false)
		expectBool(t, "AuthenticatedBy without ASes", impl.AuthenticatedBy(impl.Topology{}, s, r), false)
	}
	s.Hops[1].MAC++
	for r := -1; r <= 9; r++ {
		expectBool(t, "AuthenticatedBy with a MAC changed", impl.AuthenticatedBy(p, s, r), r == 0)
	}
	// The chain goes on behind a hop that does not verify.
	s = along(p, "0:0>3 3:1>3 4:1>0")
	s.Hops[1].Expiry++
	for r := -1; r <= 9; r++ {
		expectBool(t, "AuthenticatedBy with an expiry changed", impl.AuthenticatedBy(p, s, r), r == 0 || r == 4)
	}
	// An AS with two hops, the second of which verifies.
	s = along(p, "3:0>1 0:3>1 3:1>0")
	expectBool(t, "AuthenticatedBy with two hops", impl.AuthenticatedBy(p, s, 3), true)
	s.Hops[0].Egress = 2
	expectBool(t, "AuthenticatedBy with the second hop", impl.AuthenticatedBy(p, s, 3), true)
	s.Hops[2].Ingress = 2
	expectBool(t, "AuthenticatedBy with no hop", impl.AuthenticatedBy(p, s, 3), false)
	for _, r := range strange() {
		expectBool(t, "AuthenticatedBy no AS", impl.AuthenticatedBy(p, s, r), false)
	}
}

func TestChecksShareNoMemory(t *testing.T) {
	p := world()
	mark, other := impl.Hop{AS: 77}, impl.Hop{AS: 78}
	plain := along(p, "0:0>1 1:1>2 2:1>0")
	a, b := plain, plain
	a.Hops, b.Hops = withSpare(plain.Hops, mark), withSpare(plain.Hops, mark)
	for i := range 4 {
		for j := range 4 {
			s := impl.Splice(a, i, b, j)
			expectUnshared(t, s.Hops, a.Hops, other)
			expectUnshared(t, s.Hops, b.Hops, other)
		}
	}
	expectUnshared(t, impl.StripMACs(a), a.Hops, other)
	impl.FirstInvalidHop(p, a)
	impl.ValidSegment(p, a)
	impl.SegmentUsable(p, a, 10)
	impl.AuthenticatedBy(p, a, 2)
	expectUntouched(t, a.Hops, plain.Hops, mark)
	expectUntouched(t, b.Hops, plain.Hops, mark)
}
