package tests

import (
	"math/rand"
	"slices"
	"strings"
	"testing"

	"loop.example/g00505/impl"
)

// build returns a segment of these hops, each authenticated, with their expiries.
func build(p impl.Topology, ts int, beta int, hops ...impl.Hop) impl.Segment {
	s := impl.Segment{Timestamp: ts, Beta: beta}
	before := beta
	for _, h := range hops {
		key := 0
		if h.AS >= 0 && h.AS < len(p.ASes) {
			key = p.ASes[h.AS].Key
		}
		h.MAC = modelDigest([]int{key, ts, before, h.AS, h.Ingress, h.Egress, h.Expiry, key})
		before = (before + h.MAC) % impl.Prime
		s.Hops = append(s.Hops, h)
	}
	return s
}

// route reads hops from a text of the form "0:0>2 2:1>0"; they expire at 100.
func route(text string) []impl.Hop {
	hops := []impl.Hop{}
	for _, word := range strings.Fields(text) {
		parts := strings.FieldsFunc(word, func(c rune) bool { return c == ':' || c == '>' })
		n := [3]int{}
		for i, part := range parts {
			n[i], _ = impl.ParseInt(part)
		}
		hops = append(hops, impl.Hop{AS: n[0], Ingress: n[1], Egress: n[2], Expiry: 100})
	}
	return hops
}

// along returns an authenticated segment with the timestamp 10 and the beta 500.
func along(p impl.Topology, text string) impl.Segment {
	return build(p, 10, 500, route(text)...)
}

// cloneSegment returns a copy of s that can be changed.
func cloneSegment(s impl.Segment) impl.Segment {
	s.Hops = slices.Clone(s.Hops)
	return s
}

func expectSegment(t *testing.T, what string, got impl.Segment, want impl.Segment) {
	t.Helper()
	if got.Timestamp != want.Timestamp || got.Beta != want.Beta || !slices.Equal(got.Hops, want.Hops) {
		t.Errorf("%s = %+v; want %+v", what, got, want)
	}
}

// worldRoutes are the ways of valid segments in the world, as they end, or not.
func worldRoutes() (core []string, down []string) {
	core = []string{"0:0>1 1:1>0", "0:0>1 1:1>2 2:1>0", "0:0>2 2:2>1 1:2>0", "0:0>1 1:1>2 2:1>6 7:3>0", "7:0>3 2:6>0", "1:0>1", "7:0>3 2:6>2 0:2>1", "7:0>3 2:6>1 1:2>1 0:1>0"}
	down = []string{"0:0>3 3:1>0", "0:0>4 4:4>0", "1:0>3 3:2>4 4:2>0", "0:0>3 3:1>3", "2:0>3", "2:0>3 5:1>2", "2:0>3 5:1>2 6:1>0"}
	return core, down
}

// randomWalk returns an authenticated segment from a core AS over links of one kind, or false if there is none from there.
func randomWalk(r *rand.Rand, p impl.Topology) (impl.Segment, bool) {
	as, kind := r.Intn(len(p.ASes)), impl.ToCore+r.Intn(2)
	if !p.ASes[as].Core {
		return impl.Segment{}, false
	}
	hops, in, seen := []impl.Hop{}, 0, map[int]bool{}
	for {
		seen[as] = true
		h := impl.Hop{AS: as, Ingress: in, Expiry: r.Intn(impl.MaxTime + 1)}
		out := impl.InterfacesOfKind(p, as, kind)
		out = slices.DeleteFunc(out, func(iface int) bool { far, _ := impl.RemoteEnd(p, as, iface); return seen[far] })
		if len(out) == 0 || in > 0 && r.Intn(4) == 0 {
			hops = append(hops, h)
			break
		}
		h.Egress = out[r.Intn(len(out))]
		hops = append(hops, h)
		if r.Intn(6) == 0 {
			break
		}
		as, in = impl.RemoteEnd(p, as, h.Egress)
	}
	if hops[0].Egress == 0 {
		return impl.Segment{}, false
	}
	return build(p, r.Intn(impl.MaxTime+1), r.Intn(impl.Prime), hops...), true
}

// manyWalks calls f with authenticated segments of many valid topologies.
func manyWalks(t *testing.T, seed int64, f func(r *rand.Rand, p impl.Topology, s impl.Segment)) {
	t.Helper()
	r := rand.New(rand.NewSource(seed))
	lengths := map[int]int{}
	for range 300 {
		p := randomValidTopology(r)
		if r.Intn(3) == 0 {
			p = world()
		}
		for range 10 {
			if s, ok := randomWalk(r, p); ok {
				lengths[len(s.Hops)]++
				f(r, p, s)
			}
		}
	}
	if lengths[1] < 50 || lengths[2] < 100 || lengths[3] < 50 || lengths[4] < 10 {
		t.Errorf("too few segments of some lengths: %v", lengths)
	}
}
