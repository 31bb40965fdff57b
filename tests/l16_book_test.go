package tests

import (
	"math/rand"
	"slices"
	"testing"

	"loop.example/g00505/impl"
)

// registered returns the segment that AS r makes of a beacon, with these hops, that expire at 110.
func registered(p impl.Topology, ts int, beta int, text string) impl.Segment {
	hops := route(text)
	for i := range hops {
		hops[i].Expiry = 110
	}
	return build(p, ts, beta, hops...)
}

// worldDatabase has the segments of worldRoutes that end at an AS, with the timestamp 10 and different betas; they expire at 100.
func worldDatabase() impl.SegmentDatabase {
	p := world()
	core, down := worldRoutes()
	k := impl.SegmentDatabase{}
	for i, text := range core {
		if s := build(p, 10, i, route(text)...); impl.IsTerminated(s) {
			k.Core = append(k.Core, s)
		}
	}
	for i, text := range down {
		if s := build(p, 10, 100+i, route(text)...); impl.IsTerminated(s) {
			k.Down = append(k.Down, s)
		}
	}
	return k
}

func TestBuildDatabase(t *testing.T) {
	p := family()
	beta01, beta02 := originBeta(p, 0, 1, 10), originBeta(p, 0, 2, 10)
	beta11, beta12 := originBeta(p, 1, 1, 10), originBeta(p, 1, 2, 10)
	want := impl.SegmentDatabase{
		Down: []impl.Segment{registered(p, 10, beta02, "0:0>2 2:1>0"), registered(p, 10, beta12, "1:0>2 3:1>0"), registered(p, 10, beta02, "0:0>2 2:1>2 4:1>0")},
		Core: []impl.Segment{registered(p, 10, beta11, "1:0>1 0:1>0"), registered(p, 10, beta01, "0:0>1 1:1>0")},
	}
	b := impl.RunBeaconing(p, nil, 10)
	expectSame(t, "BuildDatabase", impl.BuildDatabase(p, nil, b), want)
	expectSame(t, "BuildDatabase without stores", impl.BuildDatabase(p, nil, impl.Beaconing{Timestamp: 10}), impl.SegmentDatabase{})
	expectSame(t, "BuildDatabase of empty stores", impl.BuildDatabase(p, nil, impl.NewBeaconing(p, 10)), impl.SegmentDatabase{})
	expectSame(t, "BuildDatabase without ASes", impl.BuildDatabase(impl.Topology{}, nil, b), impl.SegmentDatabase{})
	// The timestamp of the beaconing plays no part.
	b.Timestamp = -7
	expectSame(t, "BuildDatabase at another time", impl.BuildDatabase(p, nil, b), want)
	// Nor does whether the topology is valid, as long as the segments are.
	q := family()
	q.ASes[4].ISD = 7
	expectSame(t, "BuildDatabase with an invalid topology", impl.BuildDatabase(q, nil, b), want)
	b.Stores = append(b.Stores, b.Stores[2], b.Stores[0])
	expectSame(t, "BuildDatabase with more stores", impl.BuildDatabase(p, nil, b), want)
	b.Stores = b.Stores[:3]
	fewer := impl.SegmentDatabase{Down: want.Down[:1], Core: want.Core}
	expectSame(t, "BuildDatabase with fewer stores", impl.BuildDatabase(p, nil, b), fewer)
}

func TestBuildDatabaseOfAStoreInItsOrder(t *testing.T) {
	p := world()
	all := beaconsFor(p)
	slices.Reverse(all)
	want := []impl.Segment{}
	for _, g := range all {
		hops := append(slices.Clone(g.Segment.Hops), impl.Hop{AS: 3, Ingress: g.Ingress, Expiry: g.Segment.Timestamp + 100})
		want = append(want, build(p, g.Segment.Timestamp, g.Segment.Beta, hops...))
	}
	// A store may hold more beacons than there is room for, and one of them twice.
	expectSame(t, "BuildDatabase", impl.BuildDatabase(p, nil, stores(8, all...)), impl.SegmentDatabase{Down: want})
	twice := impl.BuildDatabase(p, nil, stores(8, all[0], all[0]))
	expectSame(t, "BuildDatabase of a beacon twice", twice, impl.SegmentDatabase{Down: []impl.Segment{want[0], want[0]}})
}

func TestBuildDatabaseLeavesOutWhatIsRejected(t *testing.T) {
	p := world()
	good := received(p, "0:0>3")
	rejected := cloneBeacons(slices.Repeat([]impl.Beacon{good}, 4))
	rejected[0].Ingress = 2
	rejected[1].Segment.Beta++
	rejected[2].Segment.Hops[0].MAC++
	rejected[3].Segment.Hops = nil
	rejected = append(rejected, impl.Beacon{Ingress: 1, Segment: along(p, "0:0>3 3:1>0")}, received(p, "2:0>3"), good)
	want := impl.SegmentDatabase{Down: []impl.Segment{build(p, 10, 500, impl.Hop{AS: 0, Egress: 3, Expiry: 100}, impl.Hop{AS: 3, Ingress: 1, Expiry: 110})}}
	expectSame(t, "BuildDatabase", impl.BuildDatabase(p, nil, stores(8, rejected...)), want)
	for name, n := range map[string]impl.Policy{
		"a short policy":     {MaxLength: 1, Lifetime: 5},
		"a denied AS":        {MaxLength: 8, DeniedASes: 1, Lifetime: 5},
		"interface 0 closed": {MaxLength: 8, ClosedInterfaces: 1, Lifetime: 5},
	} {
		policies := []impl.Policy{{}, {}, {}, n}
		expectSame(t, "BuildDatabase with "+name, impl.BuildDatabase(p, policies, stores(8, good)), impl.SegmentDatabase{})
		// The same policy for another AS, and one that is not valid, forbid nothing.
		expectSame(t, "BuildDatabase with "+name, impl.BuildDatabase(p, policies[1:], stores(8, good)), want)
		policies[3].Lifetime = 1001
		expectSame(t, "BuildDatabase with "+name, impl.BuildDatabase(p, policies, stores(8, good)), want)
	}
	policies := []impl.Policy{{}, {}, {}, {MaxLength: 2, Lifetime: 5}}
	want.Down[0] = build(p, 10, 500, impl.Hop{AS: 0, Egress: 3, Expiry: 100}, impl.Hop{AS: 3, Ingress: 1, Expiry: 15})
	expectSame(t, "BuildDatabase with a policy", impl.BuildDatabase(p, policies, stores(8, good)), want)
}

// passing returns a segment of hops at these ASes and nothing else.
func passing(timestamp int, ases ...int) impl.Segment {
	s := segmentOf(ases...)
	s.Timestamp = timestamp
	return s
}

func TestDownSegments(t *testing.T) {
	l := []impl.Segment{passing(1, 3, 5), passing(2, 5, 3), passing(3), passing(4, 5), passing(5, 2, 1, 5), passing(6, 5, -1), passing(7, 9)}
	k := impl.SegmentDatabase{Down: l, Core: []impl.Segment{passing(8, 3, 5), passing(9)}}
	expectSame(t, "DownSegments of 5", impl.DownSegments(k, 5), []impl.Segment{l[0], l[3], l[4]})
	expectSame(t, "DownSegments of 3", impl.DownSegments(k, 3), l[1:2])
	expectSame(t, "DownSegments of 9", impl.DownSegments(k, 9), l[6:])
	expectSame(t, "DownSegments of 2", impl.DownSegments(k, 2), nil)
	// Without hops, LastAS is -1.
	expectSame(t, "DownSegments of -1", impl.DownSegments(k, -1), []impl.Segment{l[2], l[5]})
	for _, r := range strange() {
		if r != -1 {
			expectSame(t, "DownSegments of no AS", impl.DownSegments(k, r), nil)
		}
	}
	expectSame(t, "DownSegments of nothing", impl.DownSegments(impl.SegmentDatabase{}, 5), nil)
}

func TestCoreSegments(t *testing.T) {
	l := []impl.Segment{passing(1, 3, 5), passing(2, 5, 3), passing(3), passing(4, 3, 1, 5), passing(5, 5, 2, 3), passing(6, 5), passing(7, 5, 1, 5), passing(8, 3, 5, 1), passing(9, 1, 3, 5)}
	k := impl.SegmentDatabase{Down: []impl.Segment{passing(10, 3, 5), passing(11)}, Core: l}
	expectSame(t, "CoreSegments of 3 and 5", impl.CoreSegments(k, 3, 5), []impl.Segment{l[0], l[3], l[1], l[4]})
	expectSame(t, "CoreSegments of 5 and 3", impl.CoreSegments(k, 5, 3), []impl.Segment{l[1], l[4], l[0], l[3]})
	expectSame(t, "CoreSegments of 3 and 1", impl.CoreSegments(k, 3, 1), l[7:8])
	expectSame(t, "CoreSegments of 1 and 3", impl.CoreSegments(k, 1, 3), l[7:8])
	expectSame(t, "CoreSegments of 2 and 3", impl.CoreSegments(k, 2, 3), nil)
	// From an AS to itself is in both directions.
	expectSame(t, "CoreSegments of 5 and 5", impl.CoreSegments(k, 5, 5), []impl.Segment{l[5], l[6], l[5], l[6]})
	expectSame(t, "CoreSegments of -1 and -1", impl.CoreSegments(k, -1, -1), []impl.Segment{l[2], l[2]})
	for _, r := range strange() {
		expectSame(t, "CoreSegments of no AS", impl.CoreSegments(k, r, 5), nil)
		expectSame(t, "CoreSegments of no AS", impl.CoreSegments(k, 3, r), nil)
	}
	expectSame(t, "CoreSegments of nothing", impl.CoreSegments(impl.SegmentDatabase{}, 3, 5), nil)
}

func TestSegmentsOfTheWorld(t *testing.T) {
	k := worldDatabase()
	p := world()
	for r := range p.ASes {
		for _, s := range impl.DownSegments(k, r) {
			expectBool(t, "a descendant", impl.Contains(impl.Descendants(p, impl.FirstAS(s)), r), true)
		}
	}
	expectInt(t, "DownSegments of 4", len(impl.DownSegments(k, 4)), 2)
	expectInt(t, "CoreSegments of 0 and 7", len(impl.CoreSegments(k, 0, 7)), 2)
	expectBool(t, "DatabaseUsable", impl.DatabaseUsable(p, k, 10), true)
}

// useless are segments none of which may stand in a database of the world at the time 50.
func useless(p impl.Topology) []impl.Segment {
	late := build(p, 51, 500, route("0:0>3 3:1>0")...)
	expired := route("0:0>3 3:1>0")
	expired[0].Expiry = 49
	forged := along(p, "0:0>3 3:1>0")
	forged.Hops[1].MAC++
	return []impl.Segment{late, build(p, 10, 500, expired...), forged, along(p, "0:0>3 3:1>3"), along(p, "0:0>3"), {}, along(p, "0:0>0"), along(p, "3:0>3 4:1>0")}
}

func TestDatabaseUsable(t *testing.T) {
	p := world()
	k := worldDatabase()
	hops := route("2:0>3 5:1>0")
	hops[1].Expiry = 80
	k.Down = append(k.Down, build(p, 20, 500, hops...))
	for now, want := range map[int]bool{19: false, 20: true, 21: true, 79: true, 80: true, 81: false, -1: false, impl.MaxTime: false} {
		expectBool(t, "DatabaseUsable", impl.DatabaseUsable(p, k, now), want)
		usable := k
		if now < 20 || now > 80 {
			usable.Down = k.Down[:len(k.Down)-1]
		}
		if now < 10 || now > 100 {
			usable = impl.SegmentDatabase{}
		}
		expectSame(t, "UsableSegments", impl.UsableSegments(p, k, now), usable)
	}
	for _, now := range strange() {
		if now < 20 || now > 80 {
			expectBool(t, "DatabaseUsable", impl.DatabaseUsable(p, k, now), false)
		}
		expectBool(t, "DatabaseUsable of nothing", impl.DatabaseUsable(p, impl.SegmentDatabase{}, now), true)
	}
}

func TestDatabasesWithUselessSegments(t *testing.T) {
	p := world()
	k := worldDatabase()
	wrong := append(useless(p), k.Core[0])
	for i, s := range wrong {
		for place := range 3 {
			got := impl.SegmentDatabase{Core: k.Core, Down: slices.Insert(slices.Clone(k.Down), place, s)}
			if impl.DatabaseUsable(p, got, 50) {
				t.Errorf("segment %d is usable under Down", i)
			}
			expectSame(t, "UsableSegments", impl.UsableSegments(p, got, 50), k)
		}
	}
	wrong[len(wrong)-1] = k.Down[0]
	for i, s := range wrong {
		for place := range 3 {
			got := impl.SegmentDatabase{Down: k.Down, Core: slices.Insert(slices.Clone(k.Core), place, s)}
			if impl.DatabaseUsable(p, got, 50) {
				t.Errorf("segment %d is usable under Core", i)
			}
			expectSame(t, "UsableSegments", impl.UsableSegments(p, got, 50), k)
		}
	}
	turned := impl.SegmentDatabase{Down: k.Core, Core: k.Down}
	expectBool(t, "DatabaseUsable of the other kinds", impl.DatabaseUsable(p, turned, 50), false)
	expectSame(t, "UsableSegments of the other kinds", impl.UsableSegments(p, turned, 50), impl.SegmentDatabase{})
	expectSame(t, "UsableSegments without ASes", impl.UsableSegments(impl.Topology{}, k, 50), impl.SegmentDatabase{})
	// A segment may be there twice.
	twice := impl.SegmentDatabase{Down: slices.Repeat(k.Down, 2), Core: slices.Repeat(k.Core, 2)}
	expectBool(t, "DatabaseUsable", impl.DatabaseUsable(p, twice, 50), true)
	expectSame(t, "UsableSegments", impl.UsableSegments(p, twice, 50), twice)
}

func TestSegmentCount(t *testing.T) {
	expectInt(t, "SegmentCount", impl.SegmentCount(impl.SegmentDatabase{Down: make([]impl.Segment, 3), Core: make([]impl.Segment, 20)}), 23)
	expectInt(t, "SegmentCount of nothing", impl.SegmentCount(impl.SegmentDatabase{}), 0)
}

func TestAddSegment(t *testing.T) {
	p := world()
	whole := worldDatabase()
	k := impl.SegmentDatabase{}
	for i, s := range whole.Down {
		k = impl.AddSegment(p, k, s)
		expectSame(t, "AddSegment of a down segment", k, impl.SegmentDatabase{Down: whole.Down[:i+1]})
	}
	for i, s := range whole.Core {
		k = impl.AddSegment(p, k, s)
		expectSame(t, "AddSegment of a core segment", k, impl.SegmentDatabase{Down: whole.Down, Core: whole.Core[:i+1]})
	}
	for _, s := range slices.Concat(whole.Down, whole.Core) {
		expectSame(t, "AddSegment of one that is there", impl.AddSegment(p, k, s), k)
	}
	other := build(p, 11, 100, route("0:0>3 3:1>0")...)
	expectSame(t, "AddSegment of another time", impl.AddSegment(p, k, other).Down, append(slices.Clone(whole.Down), other))
	// Time plays no part, nor do the segments that are there already.
	odd := impl.SegmentDatabase{Down: []impl.Segment{{}, passing(3, 9)}, Core: []impl.Segment{passing(4)}}
	expectSame(t, "AddSegment to anything", impl.AddSegment(p, odd, other), impl.SegmentDatabase{Down: append(slices.Clone(odd.Down), other), Core: odd.Core})
}

func TestAddSegmentRejects(t *testing.T) {
	p := world()
	k := worldDatabase()
	for i, s := range useless(p)[2:] {
		if got := impl.AddSegment(p, k, s); !same(got, k) {
			t.Errorf("segment %d was added", i)
		}
		expectSame(t, "AddSegment to nothing", impl.AddSegment(p, impl.SegmentDatabase{}, s), impl.SegmentDatabase{})
	}
	// Those that are not usable at some time are added.
	for _, s := range useless(p)[:2] {
		expectSame(t, "AddSegment", impl.AddSegment(p, impl.SegmentDatabase{}, s), impl.SegmentDatabase{Down: []impl.Segment{s}})
	}
	core, down := k.Core[0], k.Down[0]
	turned := impl.SegmentDatabase{Down: []impl.Segment{core}, Core: []impl.Segment{down}}
	expectSame(t, "AddSegment of one under the other kind", impl.AddSegment(p, turned, core), turned)
	expectSame(t, "AddSegment of one under the other kind", impl.AddSegment(p, turned, down), turned)
	expectSame(t, "AddSegment without ASes", impl.AddSegment(impl.Topology{}, turned, along(p, "0:0>4 4:4>0")), turned)
}

func TestHasSegment(t *testing.T) {
	k := worldDatabase()
	for _, s := range slices.Concat(k.Down, k.Core) {
		expectBool(t, "HasSegment", impl.HasSegment(k, cloneSegment(s)), true)
		expectBool(t, "HasSegment of nothing", impl.HasSegment(impl.SegmentDatabase{}, s), false)
		s.Beta += 1000
		expectBool(t, "HasSegment of another", impl.HasSegment(k, s), false)
	}
	for _, s := range []impl.Segment{k.Down[0], k.Core[0]} {
		for name, change := range hopChanges() {
			c := cloneSegment(s)
			change(&c.Hops[1], 1)
			expectBool(t, "HasSegment with another "+name, impl.HasSegment(k, c), false)
		}
	}
	for _, hops := range [][]impl.Hop{nil, {}} {
		s := impl.Segment{Timestamp: 4, Hops: hops}
		for _, l := range [][]impl.Segment{{{Timestamp: 4}}, {{Timestamp: 4, Hops: []impl.Hop{}}}} {
			expectBool(t, "HasSegment without hops", impl.HasSegment(impl.SegmentDatabase{Down: l}, s), true)
			expectBool(t, "HasSegment without hops", impl.HasSegment(impl.SegmentDatabase{Core: l}, s), true)
		}
		expectBool(t, "HasSegment without hops", impl.HasSegment(k, s), false)
	}
}

// violates reports whether the policy of an AS of s forbids its hop.
func violates(policies []impl.Policy, s impl.Segment) bool {
	for i, h := range s.Hops {
		n := impl.PolicyFor(policies, h.AS)
		if i >= n.MaxLength || impl.Contains(n.ClosedInterfaces, h.Egress) || h.Expiry != min(s.Timestamp+n.Lifetime, impl.MaxTime) {
			return true
		}
		for _, before := range s.Hops[:i] {
			if impl.Contains(n.DeniedASes, before.AS) {
				return true
			}
		}
	}
	return false
}

func TestNoSegmentViolatesAPolicy(t *testing.T) {
	r := rand.New(rand.NewSource(23))
	count := 0
	for range 600 {
		p := randomValidTopology(r)
		policies := loosePolicies(r)
		ts := r.Intn(impl.MaxTime)
		b := impl.RunBeaconing(p, policies, ts)
		k := impl.BuildDatabase(p, policies, b)
		expectBool(t, "DatabaseUsable", impl.DatabaseUsable(p, k, ts), true)
		expectBool(t, "more segments than beacons", impl.SegmentCount(k) > impl.BeaconCount(b), false)
		for _, s := range slices.Concat(k.Down, k.Core) {
			if violates(policies, s) {
				t.Fatalf("%+v violates one of %+v", s, policies)
			}
			count++
		}
		expectSame(t, "the down segments are all different", len(withoutRepetitions(k.Down)), len(k.Down))
	}
	if count < 1000 {
		t.Errorf("too few segments: %d", count)
	}
}

func withoutRepetitions(l []impl.Segment) []impl.Segment {
	k := impl.SegmentDatabase{}
	for _, s := range l {
		if !impl.HasSegment(k, s) {
			k.Down = append(k.Down, s)
		}
	}
	return k.Down
}

func TestAllASesWithACoreAncestorAreReached(t *testing.T) {
	r := rand.New(rand.NewSource(24))
	reached := 0
	for range 1200 {
		p := randomValidTopology(r)
		k := impl.BuildDatabase(p, nil, impl.RunBeaconing(p, nil, 10))
		for as, a := range p.ASes {
			l := impl.DownSegments(k, as)
			has := !a.Core && len(impl.ReachableCores(p, as)) > 0
			if has != (len(l) > 0) {
				t.Fatalf("AS %d of %+v is reached by %d segments", as, p, len(l))
			}
			for _, s := range l {
				expectBool(t, "an ancestor", slices.Contains(impl.ReachableCores(p, as), impl.FirstAS(s)), true)
			}
			if has {
				reached++
			}
			for other := range p.ASes {
				if a.Core && as != other && impl.Contains(impl.CoreComponent(p, as), other) {
					expectBool(t, "a core segment", len(impl.CoreSegments(k, as, other)) > 0, true)
				}
			}
		}
	}
	if reached < 300 {
		t.Errorf("too few ASes: %d", reached)
	}
}

func TestDatabasesShareNoMemory(t *testing.T) {
	p, k := world(), worldDatabase()
	b := impl.RunBeaconing(p, nil, 10)
	s := build(p, 12, 5, route("0:0>3 3:1>0")...)
	expectPure(t, "BuildDatabase", impl.BuildDatabase, p, []impl.Policy{{}, {}}, b)
	expectPure(t, "DownSegments", impl.DownSegments, k, 4)
	expectPure(t, "CoreSegments", impl.CoreSegments, k, 0, 7)
	expectPure(t, "DatabaseUsable", impl.DatabaseUsable, p, k, 50)
	expectPure(t, "UsableSegments", impl.UsableSegments, p, k, 50)
	expectPure(t, "SegmentCount", impl.SegmentCount, k)
	expectPure(t, "AddSegment", impl.AddSegment, p, k, s)
	expectPure(t, "AddSegment of one that is there", impl.AddSegment, p, k, k.Down[1])
	expectPure(t, "AddSegment of none", impl.AddSegment, p, k, impl.Segment{})
	expectPure(t, "HasSegment", impl.HasSegment, k, s)
	// Even if a segment is returned twice, or is twice in the database, its copies share no memory.
	loop := impl.SegmentDatabase{Core: []impl.Segment{passing(1, 5), passing(2, 5, 3, 5)}}
	expectUnsharedParts(t, "CoreSegments of 5 and 5", impl.CoreSegments(loop, 5, 5))
	twice := impl.SegmentDatabase{Down: slices.Repeat(k.Down[:1], 3), Core: slices.Repeat(k.Core[:1], 3)}
	expectUnsharedParts(t, "UsableSegments", impl.UsableSegments(p, twice, 50))
	expectUnsharedParts(t, "AddSegment", impl.AddSegment(p, twice, k.Down[0]))
	expectUnsharedParts(t, "BuildDatabase", impl.BuildDatabase(p, nil, stores(8, slices.Repeat(beaconsFor(p)[:1], 3)...)))
}
