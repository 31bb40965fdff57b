package tests

import (
	"math"
	"math/rand"
	"slices"
	"testing"

	"loop.example/g00505/impl"
)

// notTopologies are topologies that are not valid, although they have ASes with links as the world has.
func notTopologies() []impl.Topology {
	l := []impl.Topology{{}}
	for range 4 {
		l = append(l, world())
	}
	l[1].ASes[7].Key = l[1].ASes[0].Key
	l[2].ASes[5].ISD = 3
	l[3].Links[12].AInterface = 3
	l[4].Links[10].Kind = 4
	return l
}

// message returns the message of AS r, which has received the hops before the last one of s, through the egress of this one.
func message(p impl.Topology, s impl.Segment) impl.BeaconMessage {
	last := s.Hops[len(s.Hops)-1]
	_, far, in, _ := modelEnd(p, last.AS, last.Egress)
	return impl.BeaconMessage{To: far, Beacon: impl.Beacon{Ingress: in, Segment: s}}
}

// originBeta is the beta with which AS r originates a segment.
func originBeta(p impl.Topology, r int, out int, ts int) int {
	return modelDigest([]int{p.ASes[r].Key, ts, out, p.ASes[r].Key})
}

// origin returns the message with which AS r originates a segment that expires at the time expiry.
func origin(p impl.Topology, r int, out int, ts int, expiry int) impl.BeaconMessage {
	return message(p, build(p, ts, originBeta(p, r, out, ts), impl.Hop{AS: r, Egress: out, Expiry: expiry}))
}

func TestNewBeaconing(t *testing.T) {
	expectSame(t, "NewBeaconing", impl.NewBeaconing(family(), 10), impl.Beaconing{Timestamp: 10, Stores: make([]impl.BeaconStore, 5)})
	expectSame(t, "NewBeaconing", impl.NewBeaconing(impl.Topology{ASes: []impl.AS{{Key: 1}}}, 0), impl.Beaconing{Stores: make([]impl.BeaconStore, 1)})
	for _, ts := range append(strange(), impl.MaxTime+1) {
		expectSame(t, "NewBeaconing", impl.NewBeaconing(world(), ts), impl.Beaconing{Timestamp: ts, Stores: make([]impl.BeaconStore, 8)})
	}
}

func TestBeaconingInInvalidTopologies(t *testing.T) {
	whole := world()
	b := impl.RunBeaconing(whole, nil, 10)
	messages := slices.Concat(impl.Originated(whole, nil, 0, 10), impl.Propagated(whole, nil, 3, b.Stores[3].Beacons))
	if len(messages) < 4 || impl.BeaconCount(impl.DeliverBeacons(whole, impl.NewBeaconing(whole, 10), messages)) < 4 {
		t.Fatal("too few messages")
	}
	empty := impl.NewBeaconing(whole, 10)
	for _, p := range notTopologies() {
		for _, ts := range []int{-5, 0, 10, math.MaxInt} {
			expectSame(t, "NewBeaconing", impl.NewBeaconing(p, ts), impl.Beaconing{Timestamp: ts})
			expectSame(t, "RunBeaconing", impl.RunBeaconing(p, nil, ts), impl.Beaconing{Timestamp: ts})
		}
		for r := range whole.ASes {
			expectSame(t, "Originated", impl.Originated(p, nil, r, 10), nil)
			expectSame(t, "Propagated", impl.Propagated(p, nil, r, b.Stores[r].Beacons), nil)
		}
		expectSame(t, "DeliverBeacons", impl.DeliverBeacons(p, empty, messages), empty)
		expectSame(t, "RunBeaconRound", impl.RunBeaconRound(p, nil, b), b)
		expectSame(t, "RunBeaconRound", impl.RunBeaconRound(p, nil, empty), empty)
	}
}

func TestOriginatedByEachAS(t *testing.T) {
	p := world()
	interfaces := [][]int{{1, 2, 3, 4}, {1, 2, 3}, {1, 2, 3, 6}, {}, {}, {}, {}, {3}}
	for r := range p.ASes {
		want := []impl.BeaconMessage{}
		for _, out := range interfaces[r] {
			want = append(want, origin(p, r, out, 10, 110))
		}
		expectSame(t, "Originated", impl.Originated(p, nil, r, 10), want)
		expectSame(t, "Originated", impl.Originated(p, []impl.Policy{}, r, 10), want)
	}
	for _, r := range append(strange(), 8, 15, 16) {
		expectSame(t, "Originated by no AS", impl.Originated(p, nil, r, 10), nil)
	}
	single := impl.Topology{ASes: []impl.AS{{Core: true, Key: 1}}}
	expectSame(t, "Originated without links", impl.Originated(single, nil, 0, 10), nil)
}

func TestOriginatedAtTheEndsOfTime(t *testing.T) {
	p := world()
	for ts, expiry := range map[int]int{0: 100, 1: 101, impl.MaxTime - 100: impl.MaxTime, impl.MaxTime - 1: impl.MaxTime, impl.MaxTime: impl.MaxTime} {
		want := []impl.BeaconMessage{origin(p, 1, 1, ts, expiry), origin(p, 1, 2, ts, expiry), origin(p, 1, 3, ts, expiry)}
		expectSame(t, "Originated", impl.Originated(p, nil, 1, ts), want)
	}
	for _, ts := range append(strange(), impl.MaxTime+1) {
		if ts < 0 || ts > impl.MaxTime {
			expectSame(t, "Originated out of time", impl.Originated(p, nil, 1, ts), nil)
		}
	}
}

func TestOriginatedFollowsThePolicy(t *testing.T) {
	p := world()
	closed := impl.Policy{MaxLength: 1, ClosedInterfaces: 2 + 8, Lifetime: 7}
	invalid := impl.Policy{MaxLength: 9, ClosedInterfaces: 2 + 8, Lifetime: 7}
	l := []impl.Policy{closed, invalid, {MaxLength: 8, ClosedInterfaces: fullSet, Lifetime: 7}}
	expectSame(t, "Originated with two closed interfaces", impl.Originated(p, l, 0, 10), []impl.BeaconMessage{origin(p, 0, 2, 10, 17), origin(p, 0, 4, 10, 17)})
	standard := []impl.BeaconMessage{origin(p, 1, 1, 10, 110), origin(p, 1, 2, 10, 110), origin(p, 1, 3, 10, 110)}
	expectSame(t, "Originated with an invalid policy", impl.Originated(p, l, 1, 10), standard)
	expectSame(t, "Originated with all interfaces closed", impl.Originated(p, l, 2, 10), nil)
	expectSame(t, "Originated beyond the policies", impl.Originated(p, l, 7, 10), []impl.BeaconMessage{origin(p, 7, 3, 10, 110)})
}

// received returns the segment as a beacon of its receiver.
func received(p impl.Topology, text string) impl.Beacon {
	return message(p, along(p, text)).Beacon
}

// propagated returns the message of the segment with one more hop, which expires at the time expiry.
func propagated(p impl.Topology, text string, more impl.Hop, expiry int) impl.BeaconMessage {
	more.Expiry = expiry
	return message(p, build(p, 10, 500, append(route(text), more)...))
}

func TestPropagated(t *testing.T) {
	p := world()
	// Two beacons, each of which leaves through two interfaces to AS 4.
	l := []impl.Beacon{received(p, "1:0>3"), received(p, "0:0>3")}
	want := []impl.BeaconMessage{
		propagated(p, "1:0>3", impl.Hop{AS: 3, Ingress: 2, Egress: 3}, 110), propagated(p, "1:0>3", impl.Hop{AS: 3, Ingress: 2, Egress: 4}, 110),
		propagated(p, "0:0>3", impl.Hop{AS: 3, Ingress: 1, Egress: 3}, 110), propagated(p, "0:0>3", impl.Hop{AS: 3, Ingress: 1, Egress: 4}, 110),
	}
	expectSame(t, "Propagated", impl.Propagated(p, nil, 3, l), want)
	slices.Reverse(l)
	expectSame(t, "Propagated in another order", impl.Propagated(p, nil, 3, l), slices.Concat(want[2:], want[:2]))
	expectSame(t, "Propagated of a beacon twice", impl.Propagated(p, nil, 3, []impl.Beacon{l[0], l[0]}), slices.Concat(want[2:], want[2:]))
	expectSame(t, "Propagated of nothing", impl.Propagated(p, nil, 3, nil), nil)
	expectSame(t, "Propagated of nothing", impl.Propagated(p, nil, 3, []impl.Beacon{}), nil)
	core := []impl.Beacon{received(p, "7:0>3")}
	want = []impl.BeaconMessage{propagated(p, "7:0>3", impl.Hop{AS: 2, Ingress: 6, Egress: 1}, 110), propagated(p, "7:0>3", impl.Hop{AS: 2, Ingress: 6, Egress: 2}, 110)}
	expectSame(t, "Propagated over core links", impl.Propagated(p, nil, 2, core), want)
	expectSame(t, "Propagated by an AS without children", impl.Propagated(p, nil, 6, []impl.Beacon{received(p, "2:0>3 5:1>2")}), nil)
}

func TestPropagatedFollowsThePolicy(t *testing.T) {
	p := world()
	l := []impl.Beacon{received(p, "0:0>3"), received(p, "1:0>3")}
	policies := make([]impl.Policy, 4)
	policies[3] = impl.Policy{MaxLength: 2, ClosedInterfaces: 8, DeniedASes: 2, Lifetime: 9}
	expectSame(t, "Propagated", impl.Propagated(p, policies, 3, l), []impl.BeaconMessage{propagated(p, "0:0>3", impl.Hop{AS: 3, Ingress: 1, Egress: 4}, 19)})
	policies[3].MaxLength = 1
	expectSame(t, "Propagated beyond the length", impl.Propagated(p, policies, 3, l), nil)
	// A policy that is not valid does not count.
	policies[3].MaxLength = 0
	expectInt(t, "the number of messages", len(impl.Propagated(p, policies, 3, l)), 4)
}

func TestPropagatedLeavesOutWhatCannotBeExtended(t *testing.T) {
	p := world()
	good := received(p, "0:0>3")
	want := impl.Propagated(p, nil, 3, []impl.Beacon{good})
	expectInt(t, "the number of messages", len(want), 2)
	rejected := cloneBeacons(slices.Repeat([]impl.Beacon{good}, 6))
	rejected[0].Ingress++
	rejected[1].Segment.Timestamp++
	rejected[2].Segment.Beta++
	rejected[3].Segment.Hops[0].Expiry++
	rejected[4].Segment.Hops[0].MAC++
	rejected[5].Segment.Hops = nil
	rejected = append(rejected, impl.Beacon{}, impl.Beacon{Ingress: 1, Segment: along(p, "0:0>3 3:1>0")}, received(p, "2:0>3"), received(p, "0:0>4"))
	for _, g := range rejected {
		expectSame(t, "Propagated of another beacon", impl.Propagated(p, nil, 3, []impl.Beacon{g}), nil)
		expectSame(t, "Propagated of two beacons", impl.Propagated(p, nil, 3, []impl.Beacon{g, good}), want)
		expectSame(t, "Propagated of two beacons", impl.Propagated(p, nil, 3, []impl.Beacon{good, g}), want)
	}
	for _, r := range append(strange(), 0, 4, 8) {
		expectSame(t, "Propagated by another AS", impl.Propagated(p, nil, r, []impl.Beacon{good}), nil)
	}
}

// stores returns a beaconing with the time 10 and these beacons at AS 3, for n ASes.
func stores(n int, beacons ...impl.Beacon) impl.Beaconing {
	b := impl.Beaconing{Timestamp: 10, Stores: make([]impl.BeaconStore, n)}
	b.Stores[3].Beacons = beacons
	return b
}

func TestDeliverBeacons(t *testing.T) {
	p := world()
	all := beaconsFor(p)
	to3 := func(g impl.Beacon) impl.BeaconMessage { return impl.BeaconMessage{To: 3, Beacon: g} }
	expectSame(t, "DeliverBeacons of nothing", impl.DeliverBeacons(p, stores(8, all[2]), nil), stores(8, all[2]))
	got := impl.DeliverBeacons(p, stores(8, all[2]), []impl.BeaconMessage{to3(all[4]), to3(all[0]), to3(all[4]), to3(all[2])})
	expectSame(t, "DeliverBeacons", got, stores(8, all[0], all[2], all[4]))
	full := stores(8, all[1:13]...)
	expectSame(t, "DeliverBeacons to a full store", impl.DeliverBeacons(p, full, []impl.BeaconMessage{to3(all[0]), to3(all[20])}), stores(8, all[:12]...))
	other := message(p, along(p, "0:0>4"))
	got = impl.DeliverBeacons(p, stores(8, all[2]), []impl.BeaconMessage{other, {To: 4, Beacon: all[5]}, {To: 3, Beacon: other.Beacon}})
	want := stores(8, all[2])
	want.Stores[4].Beacons = []impl.Beacon{other.Beacon}
	expectSame(t, "DeliverBeacons to two ASes", got, want)
}

func TestMessagesToASesWithoutAStoreAreIgnored(t *testing.T) {
	p := world()
	g := beaconsFor(p)[0]
	for _, b := range []impl.Beaconing{stores(8), stores(4), stores(12)} {
		l := []impl.BeaconMessage{}
		for _, to := range append(strange(), len(b.Stores), len(b.Stores)+1) {
			m := impl.BeaconMessage{To: to, Beacon: g}
			expectSame(t, "DeliverBeacons", impl.DeliverBeacons(p, b, []impl.BeaconMessage{m}), b)
			l = append(l, m)
		}
		want := stores(len(b.Stores), g)
		expectSame(t, "DeliverBeacons", impl.DeliverBeacons(p, b, append(l, impl.BeaconMessage{To: 3, Beacon: g})), want)
	}
	down := message(p, along(p, "0:0>4"))
	expectSame(t, "DeliverBeacons with fewer stores", impl.DeliverBeacons(p, stores(4), []impl.BeaconMessage{down}), stores(4))
	expectSame(t, "DeliverBeacons without stores", impl.DeliverBeacons(p, impl.Beaconing{Timestamp: 3}, []impl.BeaconMessage{down}), impl.Beaconing{Timestamp: 3})
	// An AS that does not exist may have a store, but extends nothing.
	down.To = 9
	expectSame(t, "DeliverBeacons with more stores", impl.DeliverBeacons(p, stores(12), []impl.BeaconMessage{down}), stores(12))
}

// Beacons with equal digests stand in the order in which they arrive.
func TestDeliverBeaconsInTheirOrder(t *testing.T) {
	p := world()
	a := impl.Beacon{Ingress: 1, Segment: build(p, 10, 500, impl.Hop{AS: 0, Egress: 3, Expiry: 100})}
	// In the digest, the beta weighs four factors more than the expiry, which is 1 less here.
	weight := 1
	for range 4 {
		weight = weight * 1000003 % impl.Prime
	}
	b := impl.Beacon{Ingress: 1, Segment: build(p, 10, (500+inverse(weight))%impl.Prime, impl.Hop{AS: 0, Egress: 3, Expiry: 99})}
	if impl.SegmentID(a.Segment) != impl.SegmentID(b.Segment) || impl.EqualSegments(a.Segment, b.Segment) {
		t.Fatal("the digests differ")
	}
	for _, l := range [][]impl.Beacon{{a, b}, {b, a}} {
		messages := []impl.BeaconMessage{{To: 3, Beacon: l[0]}, {To: 3, Beacon: l[1]}}
		expectSame(t, "DeliverBeacons", impl.DeliverBeacons(p, stores(8), messages), stores(8, l...))
	}
}

// inverse returns the inverse of n modulo Prime.
func inverse(n int) int {
	result := 1
	for e := impl.Prime - 2; e > 0; e /= 2 {
		if e%2 == 1 {
			result = result * n % impl.Prime
		}
		n = n * n % impl.Prime
	}
	return result
}

// modelStores enumerates the beacons that may reach each AS, whatever the number of beacons in a store, in the order of preference.
func modelStores(p impl.Topology, l []impl.Policy, ts int, rounds int) [][]impl.Beacon {
	all := make([][]impl.Beacon, len(p.ASes))
	var extend func(hops []impl.Hop, beta int, r int, in int, kind int)
	extend = func(hops []impl.Hop, beta int, r int, in int, kind int) {
		n := impl.PolicyFor(l, r)
		for out := 1; out <= 6; out++ {
			_, far, farInterface, outKind := modelEnd(p, r, out)
			visited := slices.ContainsFunc(hops, func(h impl.Hop) bool { return h.AS == far })
			denied := slices.ContainsFunc(hops, func(h impl.Hop) bool { return impl.Contains(n.DeniedASes, h.AS) })
			begins := len(hops) == 0 && (outKind == impl.ToCore || outKind == impl.ToChild)
			goesOn := len(hops) > 0 && outKind == kind
			if visited || denied || len(hops) >= n.MaxLength || impl.Contains(n.ClosedInterfaces, out) || !begins && !goesOn || len(hops) == rounds {
				continue
			}
			first := beta
			if begins {
				first = originBeta(p, r, out, ts)
			}
			longer := append(slices.Clone(hops), impl.Hop{AS: r, Ingress: in, Egress: out, Expiry: min(ts+n.Lifetime, impl.MaxTime)})
			all[far] = append(all[far], impl.Beacon{Ingress: farInterface, Segment: build(p, ts, first, longer...)})
			extend(longer, first, far, farInterface, outKind)
		}
	}
	for r, a := range p.ASes {
		if a.Core {
			extend(nil, 0, r, 0, 0)
		}
	}
	for r := range all {
		slices.SortFunc(all[r], comparePreference)
	}
	return all
}

// loosePolicies returns at most a policy for each AS; some of them forbid something, and some are not valid.
func loosePolicies(r *rand.Rand) []impl.Policy {
	l := make([]impl.Policy, r.Intn(9))
	for i := range l {
		switch r.Intn(4) {
		case 0:
			l[i] = randomPolicy(r)
		case 1:
			l[i] = impl.Policy{MaxLength: 3 + r.Intn(6), DeniedASes: 1 << r.Intn(8), ClosedInterfaces: 1 << r.Intn(8), Lifetime: 1 + r.Intn(1001)}
		}
	}
	return l
}

// expectStores compares with the model up to the first store that would be too full, and returns whether none is.
func expectStores(t *testing.T, what string, got impl.Beaconing, ts int, want [][]impl.Beacon) bool {
	t.Helper()
	b := impl.Beaconing{Timestamp: ts}
	for _, l := range want {
		if len(l) > impl.MaxStore {
			return false
		}
		b.Stores = append(b.Stores, impl.BeaconStore{Beacons: l})
	}
	expectSame(t, what, got, b)
	return true
}

func TestRoundsOfBeaconing(t *testing.T) {
	p := world()
	b := impl.NewBeaconing(p, 10)
	for rounds := 1; rounds <= 9; rounds++ {
		b = impl.RunBeaconRound(p, nil, b)
		if !expectStores(t, "RunBeaconRound", b, 10, modelStores(p, nil, 10, rounds)) {
			t.Fatal("the stores are too full")
		}
	}
	expectSame(t, "RunBeaconing", impl.RunBeaconing(p, nil, 10), b)
	expectSame(t, "RunBeaconRound once more", impl.RunBeaconRound(p, nil, b), b)
}

func TestRunBeaconRoundTwice(t *testing.T) {
	p := family()
	once := impl.RunBeaconRound(p, nil, impl.NewBeaconing(p, 10))
	expectSame(t, "the first round", once, impl.Beaconing{Timestamp: 10, Stores: []impl.BeaconStore{
		{Beacons: []impl.Beacon{origin(p, 1, 1, 10, 110).Beacon}}, {Beacons: []impl.Beacon{origin(p, 0, 1, 10, 110).Beacon}},
		{Beacons: []impl.Beacon{origin(p, 0, 2, 10, 110).Beacon}}, {Beacons: []impl.Beacon{origin(p, 1, 2, 10, 110).Beacon}}, {},
	}})
	twice := copyOf(once)
	s := build(p, 10, originBeta(p, 0, 2, 10), impl.Hop{AS: 0, Egress: 2, Expiry: 110}, impl.Hop{AS: 2, Ingress: 1, Egress: 2, Expiry: 110})
	twice.Stores[4].Beacons = []impl.Beacon{{Ingress: 1, Segment: s}}
	expectSame(t, "the second round", impl.RunBeaconRound(p, nil, once), twice)
	expectInt(t, "BeaconCount", impl.BeaconCount(twice), 5)
}

// The round is run for the stores that there are.
func TestRunBeaconRoundWithOtherStores(t *testing.T) {
	p := family()
	fewer := impl.RunBeaconRound(p, nil, impl.Beaconing{Timestamp: 10, Stores: make([]impl.BeaconStore, 1)})
	expectSame(t, "a round with one store", fewer, impl.Beaconing{Timestamp: 10, Stores: make([]impl.BeaconStore, 1)})
	two := impl.RunBeaconRound(p, nil, impl.Beaconing{Timestamp: 10, Stores: make([]impl.BeaconStore, 2)})
	expectSame(t, "a round with two stores", two, impl.Beaconing{Timestamp: 10, Stores: []impl.BeaconStore{
		{Beacons: []impl.Beacon{origin(p, 1, 1, 10, 110).Beacon}}, {Beacons: []impl.Beacon{origin(p, 0, 1, 10, 110).Beacon}},
	}})
	more := impl.NewBeaconing(p, 10)
	more.Stores = append(more.Stores, impl.BeaconStore{Beacons: []impl.Beacon{withoutHops(3)}})
	got := impl.RunBeaconRound(p, nil, more)
	expectInt(t, "the number of stores", len(got.Stores), 6)
	expectSame(t, "the store of no AS", got.Stores[5], more.Stores[5])
	expectSame(t, "the other stores", got.Stores[:5], impl.RunBeaconRound(p, nil, impl.NewBeaconing(p, 10)).Stores)
	expectSame(t, "a round without stores", impl.RunBeaconRound(p, nil, impl.Beaconing{Timestamp: 4}), impl.Beaconing{Timestamp: 4})
}

// What a store holds may be of another time than the beaconing, or no beacon at all.
func TestRunBeaconRoundWithOtherBeacons(t *testing.T) {
	p := family()
	b := impl.NewBeaconing(p, 10)
	old := impl.Beacon{Ingress: 1, Segment: build(p, 3, 9, impl.Hop{AS: 0, Egress: 2, Expiry: 4})}
	b.Stores[2].Beacons = []impl.Beacon{withoutHops(2), old, old}
	got := impl.RunBeaconRound(p, nil, b)
	want := impl.Beacon{Ingress: 1, Segment: build(p, 3, 9, impl.Hop{AS: 0, Egress: 2, Expiry: 4}, impl.Hop{AS: 2, Ingress: 1, Egress: 2, Expiry: 103})}
	expectSame(t, "the store behind it", got.Stores[4].Beacons, []impl.Beacon{want})
	expectSame(t, "the store", got.Stores[2].Beacons, []impl.Beacon{withoutHops(2), origin(p, 0, 2, 10, 110).Beacon, old, old})
}

func TestRunBeaconingOutOfTime(t *testing.T) {
	for _, ts := range []int{-1, impl.MaxTime + 1, math.MinInt, math.MaxInt} {
		expectSame(t, "RunBeaconing", impl.RunBeaconing(world(), nil, ts), impl.NewBeaconing(world(), ts))
	}
	expectBool(t, "RunBeaconing at the end of time", impl.BeaconCount(impl.RunBeaconing(world(), nil, impl.MaxTime)) > 20, true)
}

func TestRunBeaconingInRingsAndRows(t *testing.T) {
	for n := 3; n <= 8; n++ {
		p := ring(n, impl.LkCore)
		last := &p.Links[n-1]
		*last = impl.Link{A: 0, AInterface: 1, B: n - 1, BInterface: 2, Kind: impl.LkCore}
		expectBool(t, "ValidTopology of a ring", impl.ValidTopology(p), true)
		// Every AS is reached from every other one both ways around, so far as the stores have room.
		expectInt(t, "BeaconCount of a ring", impl.BeaconCount(impl.RunBeaconing(p, nil, 10)), n*min(2*(n-1), 12))
		p.Links = p.Links[:n-1]
		expectInt(t, "BeaconCount of a row", impl.BeaconCount(impl.RunBeaconing(p, nil, 10)), n*(n-1))
		p.Links = nil
		expectSame(t, "RunBeaconing without links", impl.RunBeaconing(p, nil, 10), impl.NewBeaconing(p, 10))
	}
}

func TestRunBeaconingInManyTopologies(t *testing.T) {
	r := rand.New(rand.NewSource(21))
	compared := 0
	for range 1500 {
		p := randomValidTopology(r)
		policies := loosePolicies(r)
		ts := r.Intn(impl.MaxTime + 1)
		b := impl.RunBeaconing(p, policies, ts)
		if expectStores(t, "RunBeaconing", b, ts, modelStores(p, policies, ts, 8)) && impl.BeaconCount(b) > 5 {
			compared++
		}
		if t.Failed() {
			t.Fatalf("%+v, %+v", p, policies)
		}
	}
	if compared < 100 {
		t.Errorf("too few comparisons: %d", compared)
	}
}

// Whatever is sent was received by its sender, who adds one hop, and can be extended by its receiver.
func TestPropagatedBeaconsWereReceivedAndCanBeExtended(t *testing.T) {
	r := rand.New(rand.NewSource(22))
	sent := 0
	for range 800 {
		p := randomValidTopology(r)
		policies := loosePolicies(r)
		b := impl.NewBeaconing(p, 10)
		for range 4 {
			b = impl.RunBeaconRound(p, policies, b)
			for as, store := range b.Stores {
				expectBool(t, "ValidStore", impl.ValidStore(p, as, store.Beacons), true)
				for _, m := range impl.Propagated(p, policies, as, store.Beacons) {
					s := m.Beacon.Segment
					n := len(s.Hops) - 1
					before := impl.Beacon{Ingress: s.Hops[n].Ingress, Segment: impl.Splice(s, n, impl.Segment{}, 0)}
					if s.Hops[n].AS != as || !impl.HasBeacon(store.Beacons, before) || !impl.CanExtend(p, s, m.To, m.Beacon.Ingress) {
						t.Fatalf("AS %d sends %+v", as, m)
					}
					sent++
				}
				for _, m := range impl.Originated(p, policies, as, 10) {
					expectBool(t, "CanExtend", impl.CanExtend(p, m.Beacon.Segment, m.To, m.Beacon.Ingress), true)
				}
			}
		}
	}
	if sent < 1000 {
		t.Errorf("too few messages: %d", sent)
	}
}

func TestBeaconCount(t *testing.T) {
	expectInt(t, "BeaconCount without stores", impl.BeaconCount(impl.Beaconing{Timestamp: 5}), 0)
	expectInt(t, "BeaconCount of empty stores", impl.BeaconCount(impl.NewBeaconing(world(), 5)), 0)
	b := impl.Beaconing{Stores: []impl.BeaconStore{{Beacons: make([]impl.Beacon, 3)}, {}, {Beacons: make([]impl.Beacon, 20)}}}
	expectInt(t, "BeaconCount", impl.BeaconCount(b), 23)
}

func TestBeaconingSharesNoMemory(t *testing.T) {
	p, policies := world(), []impl.Policy{impl.DefaultPolicy(), {}}
	b := impl.RunBeaconRound(p, nil, impl.RunBeaconRound(p, nil, impl.NewBeaconing(p, 10)))
	messages := slices.Concat(impl.Originated(p, nil, 0, 11), impl.Propagated(p, nil, 3, b.Stores[3].Beacons))
	messages = append(messages, messages...)
	for _, q := range append(notTopologies(), p) {
		expectPure(t, "NewBeaconing", impl.NewBeaconing, q, 10)
		expectPure(t, "Originated", impl.Originated, q, policies, 0, 10)
		expectPure(t, "Propagated", impl.Propagated, q, policies, 3, b.Stores[3].Beacons)
		expectPure(t, "DeliverBeacons", impl.DeliverBeacons, q, b, messages)
		expectPure(t, "RunBeaconRound", impl.RunBeaconRound, q, policies, b)
		expectPure(t, "RunBeaconing", impl.RunBeaconing, q, policies, 10)
		expectPure(t, "BeaconCount", impl.BeaconCount, b)
	}
	// The beacons of the arguments may share memory with each other; those of the results do not.
	b.Stores[4] = b.Stores[3]
	b.Stores[3].Beacons = slices.Repeat(b.Stores[3].Beacons[:1], 3)
	for _, c := range []impl.Beaconing{impl.DeliverBeacons(p, b, nil), impl.DeliverBeacons(impl.Topology{}, b, messages), impl.RunBeaconRound(p, nil, b)} {
		expectUnsharedParts(t, "a beaconing", c)
	}
}
