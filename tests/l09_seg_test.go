package tests

import (
	"math"
	"testing"

	"loop.example/g00505/impl"
)

// chainOfCores returns a topology of n core ASes in a row, and the way through all of them.
func chainOfCores(n int) (impl.Topology, []impl.Hop) {
	p := ring(n, impl.LkCore)
	p.Links = p.Links[:n-1]
	hops := []impl.Hop{}
	for i := range n {
		hops = append(hops, impl.Hop{AS: i, Ingress: 1, Egress: 2, Expiry: 100})
	}
	hops[0].Ingress, hops[n-1].Egress = 0, 0
	return p, hops
}

func TestMaxHops(t *testing.T) {
	expectInt(t, "MaxHops", impl.MaxHops, 8)
}

func TestBetaAt(t *testing.T) {
	s := impl.Segment{Beta: 500, Hops: []impl.Hop{{MAC: 7}, {MAC: impl.Prime - 1}, {MAC: 20}}}
	for i, want := range []int{500, 507, 506, 526} {
		expectInt(t, "BetaAt", impl.BetaAt(s, i), want)
	}
	for _, i := range append(strange(), 4, 5) {
		expectInt(t, "BetaAt outside", impl.BetaAt(s, i), 0)
	}
	empty := impl.Segment{Beta: 9}
	expectInt(t, "BetaAt(0) without hops", impl.BetaAt(empty, 0), 9)
	expectInt(t, "BetaAt(1) without hops", impl.BetaAt(empty, 1), 0)
	expectInt(t, "BetaAt(-1) without hops", impl.BetaAt(empty, -1), 0)
}

func TestBetaAtOfUnusualSegments(t *testing.T) {
	s := impl.Segment{Beta: -3, Hops: []impl.Hop{{MAC: 7}, {MAC: 8}, {MAC: impl.Prime}, {MAC: 9}}}
	for i, want := range []int{-3, 0, 8, 0, 9} {
		expectInt(t, "BetaAt", impl.BetaAt(s, i), want)
	}
	s.Beta = math.MaxInt
	expectInt(t, "BetaAt(0)", impl.BetaAt(s, 0), math.MaxInt)
}

func TestWellFormedSegmentsOfTheWorld(t *testing.T) {
	p := world()
	core, down := worldRoutes()
	for _, text := range append(core, down...) {
		expectBool(t, "WellFormed of "+text, impl.WellFormed(p, along(p, text)), true)
	}
	// What no promise calls valid may be well-formed: other kinds of links, other beginnings, an egress without a link, other MACs and times.
	for _, text := range []string{"3:0>1 0:3>0", "3:0>6 5:6>0", "0:0>3 3:1>6 5:6>1 2:3>0", "7:0>1", "7:0>6", "4:0>1", "0:0>3 3:1>5"} {
		expectBool(t, "WellFormed of "+text, impl.WellFormed(p, along(p, text)), true)
	}
	s := along(p, "0:0>3 3:1>0")
	s.Timestamp, s.Beta, s.Hops[0].MAC, s.Hops[1].MAC = -1, -1, 0, 5
	expectBool(t, "WellFormed with other MACs", impl.WellFormed(p, s), true)
}

func TestWellFormedLengths(t *testing.T) {
	for n := 2; n <= 8; n++ {
		p, hops := chainOfCores(n)
		expectBool(t, "WellFormed", impl.WellFormed(p, build(p, 1, 2, hops...)), true)
		hops[n-1].Egress = 2
		expectBool(t, "WellFormed and open", impl.WellFormed(p, build(p, 1, 2, hops...)), true)
	}
	p, hops := chainOfCores(9)
	expectBool(t, "WellFormed of nine", impl.WellFormed(p, build(p, 1, 2, hops...)), false)
	expectBool(t, "WellFormed of the first eight", impl.WellFormed(p, build(p, 1, 2, hops[:8]...)), true)
	for _, s := range []impl.Segment{{}, {Timestamp: 1, Beta: 2, Hops: []impl.Hop{}}} {
		expectBool(t, "WellFormed without hops", impl.WellFormed(p, s), false)
	}
}

// The only way of nine hops without an AS that is not valid visits an AS twice; more than MaxHops hops are rejected in any case.
func TestWellFormedOfMoreThanMaxHops(t *testing.T) {
	p := ring(8, impl.LkCore)
	_, hops := chainOfCores(8)
	hops[7].Egress = 2
	hops = append(hops, impl.Hop{AS: 0, Ingress: 1, Egress: 3})
	expectBool(t, "WellFormed", impl.WellFormed(p, build(p, 1, 2, hops...)), false)
	expectBool(t, "WellFormed of eight", impl.WellFormed(p, build(p, 1, 2, hops[:8]...)), true)
}

// Each change alone makes the segment ill-formed.
func TestIllFormedSegments(t *testing.T) {
	base := "0:0>3 3:1>3 4:1>4"
	changes := map[string]func(p *impl.Topology, s *impl.Segment){
		"no hops":                          func(p *impl.Topology, s *impl.Segment) { s.Hops = nil },
		"first expiry too late":            func(p *impl.Topology, s *impl.Segment) { s.Hops[0].Expiry = impl.MaxTime + 1 },
		"last expiry negative":             func(p *impl.Topology, s *impl.Segment) { s.Hops[2].Expiry = -1 },
		"a MAC of Prime":                   func(p *impl.Topology, s *impl.Segment) { s.Hops[1].MAC = impl.Prime },
		"a negative MAC":                   func(p *impl.Topology, s *impl.Segment) { s.Hops[2].MAC = -1 },
		"first ingress 1":                  func(p *impl.Topology, s *impl.Segment) { s.Hops[0].Ingress = 1 },
		"first ingress 1, alone":           func(p *impl.Topology, s *impl.Segment) { s.Hops = s.Hops[1:2] },
		"equal interfaces":                 func(p *impl.Topology, s *impl.Segment) { s.Hops[2].Egress = 1 },
		"both interfaces 0, alone":         func(p *impl.Topology, s *impl.Segment) { s.Hops = s.Hops[:1]; s.Hops[0].Egress = 0 },
		"last egress 7":                    func(p *impl.Topology, s *impl.Segment) { s.Hops[2].Egress = 7 },
		"last egress -1":                   func(p *impl.Topology, s *impl.Segment) { s.Hops[2].Egress = -1 },
		"another egress":                   func(p *impl.Topology, s *impl.Segment) { s.Hops[0].Egress = 4 },
		"an egress without a link":         func(p *impl.Topology, s *impl.Segment) { s.Hops[0].Egress = 5 },
		"an egress of 0 before the end":    func(p *impl.Topology, s *impl.Segment) { s.Hops[1].Egress = 0 },
		"another ingress":                  func(p *impl.Topology, s *impl.Segment) { s.Hops[1].Ingress = 2 },
		"an ingress of 0 behind the first": func(p *impl.Topology, s *impl.Segment) { s.Hops[1].Ingress = 0 },
		"another AS":                       func(p *impl.Topology, s *impl.Segment) { s.Hops[1].AS = 5 },
		"an AS twice":                      func(p *impl.Topology, s *impl.Segment) { s.Hops[2].AS = 3 },
		"the first AS does not exist":      func(p *impl.Topology, s *impl.Segment) { s.Hops = s.Hops[:1]; s.Hops[0].AS = 8 },
		"the last AS does not exist":       func(p *impl.Topology, s *impl.Segment) { p.ASes = p.ASes[:4] },
		"no AS exists":                     func(p *impl.Topology, s *impl.Segment) { p.ASes = nil },
		"the first hop missing":            func(p *impl.Topology, s *impl.Segment) { s.Hops = s.Hops[1:] },
		"a hop missing":                    func(p *impl.Topology, s *impl.Segment) { s.Hops = append(s.Hops[:1], s.Hops[2]) },
		"a link missing":                   func(p *impl.Topology, s *impl.Segment) { p.Links = append(p.Links[:6], p.Links[7:]...) },
		"no links":                         func(p *impl.Topology, s *impl.Segment) { p.Links = nil },
	}
	for name, change := range changes {
		p := world()
		s := along(p, base)
		expectBool(t, "WellFormed", impl.WellFormed(p, s), true)
		change(&p, &s)
		if impl.WellFormed(p, s) {
			t.Errorf("%s: the segment is well-formed", name)
		}
	}
}

func TestWellFormedVisitsEachASOnce(t *testing.T) {
	p := world()
	// All remote ends fit; AS 0 comes twice.
	expectBool(t, "WellFormed of a circle", impl.WellFormed(p, along(p, "0:0>1 1:1>2 2:1>2 0:2>3")), false)
	expectBool(t, "WellFormed of a circle that ends", impl.WellFormed(p, along(p, "0:0>1 1:1>2 2:1>2 0:2>0")), false)
	// Between 3 and 4 there are two links.
	expectBool(t, "WellFormed of two links there and back", impl.WellFormed(p, along(p, "3:0>3 4:1>2 3:4>0")), false)
}

// In a topology that is not valid, a link at interface 0 leads nowhere for a segment.
func TestWellFormedAtInterfaceZero(t *testing.T) {
	p := world()
	p.Links = append(p.Links, impl.Link{A: 3, AInterface: 0, B: 7, BInterface: 5, Kind: impl.LkChild})
	expectBool(t, "WellFormed", impl.WellFormed(p, along(p, "0:0>3 3:1>0 7:5>0")), false)
	expectBool(t, "WellFormed", impl.WellFormed(p, along(p, "0:0>3 3:1>0")), true)
}

func TestASesOfSegments(t *testing.T) {
	p := world()
	s := along(p, "0:0>3 3:1>3 4:1>0")
	expectInts(t, "SegmentASes", impl.SegmentASes(s), 0, 3, 4)
	expectInt(t, "FirstAS", impl.FirstAS(s), 0)
	expectInt(t, "LastAS", impl.LastAS(s), 4)
	single := along(p, "7:0>3")
	expectInts(t, "SegmentASes of one hop", impl.SegmentASes(single), 7)
	expectInt(t, "FirstAS of one hop", impl.FirstAS(single), 7)
	expectInt(t, "LastAS of one hop", impl.LastAS(single), 7)
	for _, empty := range []impl.Segment{{}, {Timestamp: 5, Hops: []impl.Hop{}}} {
		expectInts(t, "SegmentASes without hops", impl.SegmentASes(empty))
		expectInt(t, "FirstAS without hops", impl.FirstAS(empty), -1)
		expectInt(t, "LastAS without hops", impl.LastAS(empty), -1)
	}
	wild := impl.Segment{Hops: []impl.Hop{{AS: -7}, {AS: math.MaxInt}, {AS: -7}}}
	expectInts(t, "SegmentASes of no ASes", impl.SegmentASes(wild), -7, math.MaxInt, -7)
	expectInt(t, "FirstAS of no AS", impl.FirstAS(wild), -7)
	expectInt(t, "LastAS of no AS", impl.LastAS(wild), -7)
}

func TestSegmentASesSharesNoMemory(t *testing.T) {
	s := along(world(), "0:0>3 3:1>3 4:1>0")
	l := impl.SegmentASes(s)
	l[0] = 99
	expectInts(t, "SegmentASes", impl.SegmentASes(s), 0, 3, 4)
	expectSegment(t, "the segment", s, along(world(), "0:0>3 3:1>3 4:1>0"))
}

func TestIsTerminated(t *testing.T) {
	cases := []struct {
		hops []impl.Hop
		want bool
	}{
		{nil, false}, {[]impl.Hop{}, false}, {[]impl.Hop{{}}, true}, {[]impl.Hop{{Egress: 1}}, false}, {[]impl.Hop{{Egress: -1}}, false},
		{[]impl.Hop{{Egress: 1}, {Ingress: 1}}, true}, {[]impl.Hop{{Egress: 0}, {Ingress: 1, Egress: 2}}, false}, {[]impl.Hop{{Egress: 0}, {Ingress: 1}}, true},
	}
	for i, c := range cases {
		if ok := impl.IsTerminated(impl.Segment{Hops: c.hops}); ok != c.want {
			t.Errorf("IsTerminated of case %d = %v", i, ok)
		}
	}
}

func TestSegmentExpiry(t *testing.T) {
	cases := []struct {
		expiries []int
		want     int
	}{
		{nil, 0}, {[]int{}, 0}, {[]int{5}, 5}, {[]int{0}, 0}, {[]int{5, 4, 6}, 4}, {[]int{4, 5, 6}, 4}, {[]int{6, 5, 4}, 4}, {[]int{7, 7}, 7},
		{[]int{5, -3}, -3}, {[]int{math.MaxInt}, math.MaxInt}, {[]int{math.MaxInt, math.MinInt}, math.MinInt},
	}
	for _, c := range cases {
		s := impl.Segment{}
		for _, n := range c.expiries {
			s.Hops = append(s.Hops, impl.Hop{Expiry: n})
		}
		expectInt(t, "SegmentExpiry", impl.SegmentExpiry(s), c.want)
	}
}

func TestFormatSegment(t *testing.T) {
	p := world()
	expectText(t, "FormatSegment", impl.FormatSegment(p, along(p, "2:0>3 5:1>2 6:1>0")), "1-2:0>3 1-5:1>2 1-6:1>0")
	expectText(t, "FormatSegment of one hop", impl.FormatSegment(p, along(p, "7:0>3")), "2-7:0>3")
	expectText(t, "FormatSegment without hops", impl.FormatSegment(p, impl.Segment{Timestamp: 4}), "-")
	expectText(t, "FormatSegment without hops", impl.FormatSegment(p, impl.Segment{Hops: []impl.Hop{}}), "-")
	expectText(t, "FormatSegment of no AS", impl.FormatSegment(p, impl.Segment{Hops: []impl.Hop{{AS: 8, Egress: -1}, {AS: 1, Ingress: 9}}}), "?:0>-1 0-1:9>0")
}

func TestEqualSegments(t *testing.T) {
	s := along(world(), "0:0>3 3:1>3 4:1>0")
	expectBool(t, "EqualSegments", impl.EqualSegments(s, cloneSegment(s)), true)
	expectBool(t, "EqualSegments of nil and empty hops", impl.EqualSegments(impl.Segment{Beta: 1}, impl.Segment{Beta: 1, Hops: []impl.Hop{}}), true)
	others := []impl.Segment{cloneSegment(s), cloneSegment(s), cloneSegment(s), cloneSegment(s), {Timestamp: s.Timestamp, Beta: s.Beta}}
	others[0].Timestamp++
	others[1].Beta++
	others[2].Hops = others[2].Hops[:2]
	others[3].Hops = append(others[3].Hops, impl.Hop{})
	for i := range s.Hops {
		for _, change := range hopChanges() {
			g := cloneSegment(s)
			change(&g.Hops[i], 1)
			others = append(others, g)
		}
	}
	for _, g := range others {
		if impl.EqualSegments(s, g) || impl.EqualSegments(g, s) {
			t.Errorf("EqualSegments is true for %+v and %+v", s, g)
		}
	}
}

func TestSegmentsAreLeftAlone(t *testing.T) {
	p := world()
	mark := impl.Hop{AS: 77}
	plain := along(p, "0:0>3 3:1>3 4:1>0")
	s := plain
	s.Hops = withSpare(plain.Hops, mark)
	impl.BetaAt(s, 3)
	impl.WellFormed(p, s)
	impl.SegmentASes(s)
	impl.IsTerminated(s)
	impl.SegmentExpiry(s)
	impl.FormatSegment(p, s)
	impl.EqualSegments(s, plain)
	expectUntouched(t, s.Hops, plain.Hops, mark)
}
