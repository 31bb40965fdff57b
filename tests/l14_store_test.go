package tests

import (
	"math"
	"math/rand"
	"slices"
	"testing"

	"loop.example/g00505/impl"
)

// beaconsFor returns the different beacons that AS 3 of the world may extend, with some timestamps and betas, in the order of preference.
func beaconsFor(p impl.Topology) []impl.Beacon {
	l := []impl.Beacon{}
	for _, ts := range []int{10, 20, 30} {
		for _, beta := range []int{1, 2, 3, 4} {
			l = append(l, impl.Beacon{Ingress: 1, Segment: build(p, ts, beta, route("0:0>3")...)})
			l = append(l, impl.Beacon{Ingress: 2, Segment: build(p, ts, beta, route("1:0>3")...)})
		}
	}
	slices.SortFunc(l, comparePreference)
	return l
}

// comparePreference orders beacons by the words of the document.
func comparePreference(a, b impl.Beacon) int {
	s, q := a.Segment, b.Segment
	keys := [][2]int{{len(s.Hops), len(q.Hops)}, {q.Timestamp, s.Timestamp}, {impl.SegmentID(s), impl.SegmentID(q)}, {a.Ingress, b.Ingress}}
	for _, k := range keys {
		if k[0] != k[1] {
			if k[0] < k[1] {
				return -1
			}
			return 1
		}
	}
	return 0
}

// cloneBeacons returns a copy of l that can be changed.
func cloneBeacons(l []impl.Beacon) []impl.Beacon {
	c := []impl.Beacon{}
	for _, g := range l {
		c = append(c, impl.Beacon{Ingress: g.Ingress, Segment: cloneSegment(g.Segment)})
	}
	return c
}

func sameBeacon(a, b impl.Beacon) bool {
	return a.Ingress == b.Ingress && a.Segment.Timestamp == b.Segment.Timestamp && a.Segment.Beta == b.Segment.Beta && slices.Equal(a.Segment.Hops, b.Segment.Hops)
}

func expectBeacons(t *testing.T, what string, got []impl.Beacon, want []impl.Beacon) {
	t.Helper()
	if !slices.EqualFunc(got, want, sameBeacon) {
		t.Errorf("%s: %d beacons: %+v; want %d: %+v", what, len(got), got, len(want), want)
	}
}

// withoutHops returns a beacon with no segment but a number by which it is told from others.
func withoutHops(n int) impl.Beacon {
	return impl.Beacon{Ingress: n}
}

func TestMaxStore(t *testing.T) {
	expectInt(t, "MaxStore", impl.MaxStore, 12)
}

func TestValidStore(t *testing.T) {
	p := world()
	l := beaconsFor(p)
	for n := range 16 {
		expectBool(t, "ValidStore", impl.ValidStore(p, 3, l[:n]), n <= 12)
	}
	expectBool(t, "ValidStore of nothing", impl.ValidStore(p, 3, nil), true)
	expectBool(t, "ValidStore of nothing at no AS", impl.ValidStore(impl.Topology{}, -1, []impl.Beacon{}), true)
	expectBool(t, "ValidStore of another AS", impl.ValidStore(p, 4, l[:1]), false)
	expectBool(t, "ValidStore of no AS", impl.ValidStore(p, -1, l[:1]), false)
	// The order plays no part.
	back := slices.Clone(l[:12])
	slices.Reverse(back)
	expectBool(t, "ValidStore in another order", impl.ValidStore(p, 3, back), true)
	for i := range 5 {
		c := cloneBeacons(l[:5])
		c[i].Ingress = 3
		expectBool(t, "ValidStore with another ingress", impl.ValidStore(p, 3, c), false)
		c = cloneBeacons(l[:5])
		c[i].Segment.Hops[0].MAC++
		expectBool(t, "ValidStore with an invalid segment", impl.ValidStore(p, 3, c), false)
		c = cloneBeacons(l[:5])
		c[i] = c[(i+2)%5]
		expectBool(t, "ValidStore with a beacon twice", impl.ValidStore(p, 3, c), false)
	}
}

func TestPreferred(t *testing.T) {
	one, two := []impl.Hop{{AS: 1}}, []impl.Hop{{AS: 1}, {AS: 2}}
	short := impl.Beacon{Ingress: 5, Segment: impl.Segment{Timestamp: 1, Hops: one}}
	long := impl.Beacon{Ingress: 1, Segment: impl.Segment{Timestamp: 9, Hops: two}}
	early := impl.Beacon{Ingress: 1, Segment: impl.Segment{Timestamp: 8, Hops: two}}
	closer := impl.Beacon{Ingress: 0, Segment: long.Segment}
	withMAC := impl.Beacon{Ingress: 1, Segment: impl.Segment{Timestamp: 9, Hops: []impl.Hop{{AS: 1, MAC: 7}, {AS: 2}}}}
	order := []impl.Beacon{withoutHops(9), short, closer, long, early}
	for i, a := range order {
		for k, b := range order {
			if ok := impl.Preferred(a, b); ok != (i < k) {
				t.Errorf("Preferred(%+v, %+v) = %v", a, b, ok)
			}
		}
	}
	expectBool(t, "Preferred of other MACs", impl.Preferred(long, withMAC) || impl.Preferred(withMAC, long), false)
	expectBool(t, "Preferred of another ingress and other MACs", impl.Preferred(closer, withMAC) && !impl.Preferred(withMAC, closer), true)
	expectBool(t, "Preferred of the least ingress", impl.Preferred(withoutHops(math.MinInt), withoutHops(math.MaxInt)), true)
}

func TestPreferredByTheSegmentID(t *testing.T) {
	a := impl.Beacon{Ingress: 5, Segment: impl.Segment{Timestamp: 3, Beta: 1}}
	for beta := range 50 {
		b := impl.Beacon{Ingress: 4, Segment: impl.Segment{Timestamp: 3, Beta: beta}}
		less := impl.SegmentID(a.Segment) < impl.SegmentID(b.Segment)
		equal := impl.SegmentID(a.Segment) == impl.SegmentID(b.Segment)
		if equal != (beta == 1) {
			t.Fatal("equal SegmentIDs")
		}
		expectBool(t, "Preferred", impl.Preferred(a, b), less)
		expectBool(t, "Preferred", impl.Preferred(b, a), !less)
	}
}

func TestPreferredIsAnOrder(t *testing.T) {
	l := beaconsFor(world())
	for _, text := range []string{"2:0>1 1:2>3", "2:0>2 0:2>3", "7:0>3 2:6>1 1:2>3"} {
		l = append(l, impl.Beacon{Ingress: 2, Segment: build(world(), 30, 1, route(text)...)})
	}
	for _, a := range l {
		for _, b := range l {
			expectBool(t, "Preferred", impl.Preferred(a, b), comparePreference(a, b) < 0)
		}
	}
}

func TestAStoreKeepsThePreferredBeaconsEachOnce(t *testing.T) {
	p := world()
	all := beaconsFor(p)
	r := rand.New(rand.NewSource(19))
	for range 60 {
		store := []impl.Beacon{}
		seen := map[int]bool{}
		for range 40 {
			i := r.Intn(len(all))
			if store = impl.StoreBeacon(p, 3, store, all[i]); !impl.ValidStore(p, 3, store) {
				t.Fatal("not valid")
			}
			seen[i] = true
			want := []impl.Beacon{}
			for k, g := range all {
				if seen[k] && len(want) < 12 {
					want = append(want, g)
				}
			}
			expectBeacons(t, "StoreBeacon", store, want)
		}
		if t.Failed() {
			t.FailNow()
		}
	}
}

func TestStoreBeaconInAFullStore(t *testing.T) {
	p := world()
	all := beaconsFor(p)
	for _, n := range []int{11, 12, 13, 20} {
		l := all[1 : n+1]
		// To all, to none, and to some of the beacons the new one is preferred.
		got := impl.StoreBeacon(p, 3, l, all[0])
		want := all[:n+1]
		if n >= 12 {
			want = want[:n]
		}
		expectBeacons(t, "StoreBeacon at the beginning", got, want)
		got = impl.StoreBeacon(p, 3, l, all[n+1])
		want = all[1 : n+2]
		if n >= 12 {
			want = l
		}
		expectBeacons(t, "StoreBeacon at the end", got, want)
		got = impl.StoreBeacon(p, 3, slices.Concat(all[:4], all[5:n+1]), all[4])
		want = all[:n+1]
		if n >= 12 {
			want = want[:n]
		}
		expectBeacons(t, "StoreBeacon in the middle", got, want)
		expectBeacons(t, "StoreBeacon of one that is there", impl.StoreBeacon(p, 3, l, all[n]), l)
		expectBeacons(t, "StoreBeacon of one that is there", impl.StoreBeacon(p, 3, l, all[1]), l)
	}
}

func TestStoreBeaconInAnEmptyStore(t *testing.T) {
	p := world()
	all := beaconsFor(p)
	expectBeacons(t, "StoreBeacon", impl.StoreBeacon(p, 3, nil, all[5]), all[5:6])
	expectBeacons(t, "StoreBeacon", impl.StoreBeacon(p, 3, []impl.Beacon{}, all[5]), all[5:6])
	expectBeacons(t, "StoreBeacon of the zero beacon", impl.StoreBeacon(p, 3, nil, impl.Beacon{}), nil)
}

// The list may be in any order, and hold anything.
func TestStoreBeaconInAListThatIsNoStore(t *testing.T) {
	p := world()
	all := beaconsFor(p)
	l := []impl.Beacon{all[8], all[2], all[9], withoutHops(1), all[2], all[1]}
	expectBeacons(t, "StoreBeacon", impl.StoreBeacon(p, 3, l, all[5]), slices.Insert(slices.Clone(l), 0, all[5]))
	expectBeacons(t, "StoreBeacon", impl.StoreBeacon(p, 3, l[1:], all[5]), slices.Insert(slices.Clone(l[1:]), 1, all[5]))
	expectBeacons(t, "StoreBeacon", impl.StoreBeacon(p, 3, l, all[20]), append(slices.Clone(l), all[20]))
	expectBeacons(t, "StoreBeacon", impl.StoreBeacon(p, 3, l, all[2]), l)
}

func TestStoreBeaconRejectsWhatCannotBeExtended(t *testing.T) {
	p := world()
	all := beaconsFor(p)
	l := all[4:8]
	rejected := cloneBeacons(slices.Repeat(all[:1], 5))
	rejected[0].Ingress++
	rejected[1].Segment.Timestamp++
	rejected[2].Segment.Beta++
	rejected[3].Segment.Hops[0].Expiry++
	rejected[4].Segment.Hops[0].MAC++
	rejected = append(rejected, impl.Beacon{}, impl.Beacon{Ingress: 1, Segment: along(p, "0:0>3 3:1>0")}, impl.Beacon{Ingress: 1, Segment: along(p, "0:0>3 3:1>3")})
	for _, g := range rejected {
		expectBeacons(t, "StoreBeacon of another beacon", impl.StoreBeacon(p, 3, l, g), l)
		expectBeacons(t, "StoreBeacon of another beacon", impl.StoreBeacon(p, 3, nil, g), nil)
	}
	for _, r := range append(strange(), 0, 1, 4, 8) {
		expectBeacons(t, "StoreBeacon at another AS", impl.StoreBeacon(p, r, l, all[0]), l)
	}
	expectBeacons(t, "StoreBeacon without a topology", impl.StoreBeacon(impl.Topology{}, 3, l, all[0]), l)
	long := cloneBeacons(slices.Concat(all, all))
	expectBeacons(t, "StoreBeacon in a long list", impl.StoreBeacon(p, 4, long, all[0]), long)
	expectBeacons(t, "StoreBeacon of one that is in a long list", impl.StoreBeacon(p, 3, long, all[0]), long)
}

// A beacon that differs only in one field is another one.
func TestStoreBeaconOfBeaconsThatDifferInOneField(t *testing.T) {
	p := world()
	at := func(ts, beta int) impl.Beacon {
		return impl.Beacon{Ingress: 1, Segment: build(p, ts, beta, route("0:0>3")...)}
	}
	l := impl.StoreBeacon(p, 3, nil, at(10, 5))
	l = impl.StoreBeacon(p, 3, l, at(11, 5))
	l = impl.StoreBeacon(p, 3, l, at(10, 6))
	l = impl.StoreBeacon(p, 3, l, at(11, 5))
	want := []impl.Beacon{at(11, 5), at(10, 5), at(10, 6)}
	slices.SortFunc(want, comparePreference)
	expectBeacons(t, "StoreBeacon", l, want)
}

func TestDropExpired(t *testing.T) {
	p := world()
	hops := route("0:0>3 3:1>3")
	hops[0].Expiry, hops[1].Expiry = 60, 50
	a := impl.Beacon{Ingress: 1, Segment: build(p, 10, 1, hops...)}
	b := impl.Beacon{Ingress: 1, Segment: build(p, 10, 1, hops[0])}
	empty := withoutHops(3)
	l := []impl.Beacon{a, empty, b, a}
	for now, want := range map[int][]impl.Beacon{
		49: {a, b, a}, 50: {a, b, a}, 51: {b}, 59: {b}, 60: {b}, 61: {}, 1: {a, b, a}, 0: {a, empty, b, a}, -1: {a, empty, b, a}, math.MinInt: {a, empty, b, a}, math.MaxInt: {},
	} {
		expectBeacons(t, "DropExpired at "+impl.FormatInt(now), impl.DropExpired(l, now), want)
	}
	expectBeacons(t, "DropExpired of nothing", impl.DropExpired(nil, 5), nil)
}

func TestHasBeacon(t *testing.T) {
	p := world()
	l := beaconsFor(p)
	for i, g := range l {
		expectBool(t, "HasBeacon", impl.HasBeacon(l, cloneBeacons(l[i : i+1])[0]), true)
		expectBool(t, "HasBeacon", impl.HasBeacon(l[:i], g), false)
		expectBool(t, "HasBeacon", impl.HasBeacon(l[i+1:], g), false)
	}
	expectBool(t, "HasBeacon of nothing", impl.HasBeacon(nil, impl.Beacon{}), false)
	expectBool(t, "HasBeacon of nil hops", impl.HasBeacon([]impl.Beacon{{Segment: impl.Segment{Hops: []impl.Hop{}}}}, impl.Beacon{}), true)
	expectBool(t, "HasBeacon of empty hops", impl.HasBeacon([]impl.Beacon{{}}, impl.Beacon{Segment: impl.Segment{Hops: []impl.Hop{}}}), true)
}

func TestEqualBeacons(t *testing.T) {
	p := world()
	g := impl.Beacon{Ingress: 1, Segment: along(p, "0:0>3 3:1>3")}
	l := []impl.Beacon{withoutHops(1), g}
	expectBool(t, "EqualBeacons", impl.EqualBeacons(l, cloneBeacons(l)), true)
	expectBool(t, "EqualBeacons of nil and empty", impl.EqualBeacons(nil, []impl.Beacon{}), true)
	expectBool(t, "EqualBeacons of nil and empty hops", impl.EqualBeacons([]impl.Beacon{{}}, []impl.Beacon{{Segment: impl.Segment{Hops: []impl.Hop{}}}}), true)
	changes := []func(x *impl.Beacon){
		func(x *impl.Beacon) { x.Ingress++ },
		func(x *impl.Beacon) { x.Segment.Timestamp++ },
		func(x *impl.Beacon) { x.Segment.Beta++ },
		func(x *impl.Beacon) { x.Segment.Hops = x.Segment.Hops[:1] },
		func(x *impl.Beacon) { x.Segment.Hops = nil },
	}
	for i := range 2 {
		for _, change := range hopChanges() {
			changes = append(changes, func(x *impl.Beacon) { change(&x.Segment.Hops[i], 1) })
		}
	}
	for i, change := range changes {
		c := cloneBeacons(l)
		change(&c[1])
		if impl.EqualBeacons(l, c) || impl.EqualBeacons(c, l) || impl.HasBeacon(l, c[1]) || impl.HasBeacon(c, l[1]) {
			t.Errorf("change %d is not seen", i)
		}
	}
	others := [][]impl.Beacon{nil, l[:1], {l[1], l[0]}, {l[0], l[1], l[1]}, {l[0], l[0]}}
	for i, c := range others {
		if impl.EqualBeacons(l, c) || impl.EqualBeacons(c, l) {
			t.Errorf("list %d is not seen", i)
		}
	}
}

func TestOriginASes(t *testing.T) {
	of := func(ases ...int) impl.Beacon { return impl.Beacon{Segment: segmentOf(ases...)} }
	expectInt(t, "OriginASes of nothing", impl.OriginASes(nil), 0)
	expectInt(t, "OriginASes", impl.OriginASes([]impl.Beacon{of(3, 1), of(0), of(3, 2, 5)}), 9)
	expectInt(t, "OriginASes at the ends of sets", impl.OriginASes([]impl.Beacon{of(15), of(0)}), 32769)
	expectInt(t, "OriginASes of no ASes", impl.OriginASes([]impl.Beacon{of(-1, 3), of(16, 3), of(math.MinInt), of(math.MaxInt), withoutHops(2), of(64)}), 0)
	expectInt(t, "OriginASes of both", impl.OriginASes([]impl.Beacon{of(-1), of(4), withoutHops(2)}), 16)
}

func TestStoresShareNoMemory(t *testing.T) {
	p := world()
	all := beaconsFor(p)
	damage := func(l []impl.Beacon) {
		for i := range l {
			for k := range l[i].Segment.Hops {
				l[i].Segment.Hops[k] = impl.Hop{AS: 99}
			}
			l[i] = impl.Beacon{Ingress: 99}
		}
	}
	calls := map[string]func(l []impl.Beacon, g impl.Beacon) []impl.Beacon{
		"StoreBeacon":                func(l []impl.Beacon, g impl.Beacon) []impl.Beacon { return impl.StoreBeacon(p, 3, l, g) },
		"StoreBeacon that rejects":   func(l []impl.Beacon, g impl.Beacon) []impl.Beacon { return impl.StoreBeacon(p, 4, l, g) },
		"StoreBeacon of one there":   func(l []impl.Beacon, g impl.Beacon) []impl.Beacon { return impl.StoreBeacon(p, 3, l, l[2]) },
		"StoreBeacon that drops one": func(l []impl.Beacon, g impl.Beacon) []impl.Beacon { return impl.StoreBeacon(p, 3, l[:12], g) },
		"DropExpired":                func(l []impl.Beacon, g impl.Beacon) []impl.Beacon { return impl.DropExpired(l, 5) },
	}
	for name, call := range calls {
		plain := cloneBeacons(all[1:16])
		l := slices.Clip(append(cloneBeacons(plain), slices.Repeat([]impl.Beacon{{Ingress: 77}}, 5)...))[:15]
		// The new beacon is preferred to all of them, so that it stays in a full store.
		g := cloneBeacons(all[:1])[0]
		result := call(l, g)
		expectBeacons(t, name+": the list", l, plain)
		for _, x := range l[:cap(l)][15:] {
			if x.Ingress != 77 {
				t.Errorf("%s: the spare capacity of the list has been written", name)
			}
		}
		other := call(l, g)
		want := cloneBeacons(result)
		damage(result)
		expectBeacons(t, name+": the list", l, plain)
		expectBeacons(t, name+": the beacon", []impl.Beacon{g}, all[:1])
		expectBeacons(t, name+": another result", other, want)
	}
}

// The beacons of a list may share memory with each other; those of a result do not.
func TestBeaconsOfAResultShareNoMemory(t *testing.T) {
	p := world()
	g := beaconsFor(p)[0]
	l := []impl.Beacon{g, g}
	for _, result := range [][]impl.Beacon{impl.DropExpired(l, 0), impl.StoreBeacon(p, 3, l, g), impl.StoreBeacon(p, 4, l, g)} {
		if len(result) != 2 {
			t.Fatal(len(result))
		}
		result[0].Segment.Hops[0].AS = 5
		expectInt(t, "the AS of the other beacon", result[1].Segment.Hops[0].AS, g.Segment.Hops[0].AS)
	}
}
